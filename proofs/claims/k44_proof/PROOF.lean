import PyProof.Rows.All
import Wide.All
import OpenK.AllK
import Wide.FinOn
import HandS.ForMost
import HandS.ForExc
import HandS.Evl
import KE.KDictKeyed
import KE.KDictWalk
import HandS.TupAny
import HandS.TupMul
import HandS.IsInst
import HandS.Wide
import HandS.Property
import HandS.MakeKwOnly
import HandS.Conv
import HandS.Codes
import KE.GoesMore
import KE.GoesEnum
import HandS.TupLen
import HandS.More
import HandS.WordsDict
import KE.KExcSuper
import KE.KExcInit
import HandS.ExcInit
import HandS.ExcSuper
import HandS.FStr
import HandS.ExcOwn
import HandS.WordsExc
import HandS.ExcIs
import KE.KExcIs
import HandS.Defaults
import HandS.Iter
import KE.GoesNew
import HandS.DictComp
import PyProof.EnumMake
import HandS.SortInts
import HandS.Deep
import KE.KSortedM
import PyProof.InstNe
import HandS.Style
import KE.GoesDict
import KE.KDictExact
import KE.GoesNewDict
import HandS.TupLe
import HandS.SortRule
import HandS.TupSets
import PyProof.TupleOfSeq
import PyProof.Rows.SortShellAny
import HandS.ClsMeth
import HandS.TryOnly
import HandS.SetFor
import KE.SortData
import KE.DataMinMax
import KE.DataEq
import HandS.SortKw
import HandS.Strs
import HandS.Zip
import PySem.Challenge.RW_registerrooms_k44_whole_counting
set_option Elab.async false
set_option linter.all false
set_option maxRecDepth 100000
set_option maxHeartbeats 4000000
namespace VL
open PySem PySem.Spec
open PyProof.Rows L2
open Evl (Ex sz_of)

/-- data -/
inductive D where
  | non | bl (b : Bool) | int (i : Int) | str (x : Str)
  | tup (xs : List D) | lst (xs : List D)
  | dic (kvs : List (Key × D))
  | ins (c : Nat) (fs : List (Str × D))
  | scr (ns : List Int)
  | dcn (kvs : List (NestedKey × D))
  | cls (c : Nat)
  | emp
  deriving Inhabited

/-! ### heaps grow: the library's Evl.Ex -/
theorem _root_.Evl.Ex.rd {H H' : Hp} {a : Addr} {u : HO} (e : Ex H H') (h : Rd H a u) : Rd H' a u := by
  rcases h with h | ⟨o, h⟩
  · exact Or.inl (e a _ h)
  · exact Or.inr ⟨o, e a _ h⟩
theorem _root_.Evl.Ex.l {K : PySem.W.Frag} {H H' : Hp} {a : Addr} {xs : List V} (e : Ex H H') (h : SqL K H a xs) : SqL K H' a xs := by
  rcases h with h | h
  · exact Or.inl (e.rd h)
  · exact Or.inr h
theorem _root_.Evl.Ex.t {K : PySem.W.Frag} {H H' : Hp} {a : Addr} {xs : List V} (e : Ex H H') (h : SqT K H a xs) : SqT K H' a xs := by
  rcases h with h | h
  · exact Or.inl (e.rd h)
  · exact Or.inr h
theorem _root_.Evl.Ex.back {H H' : Hp} {p : Addr} (e : Ex H H') (h : H' p = none) : H p = none := by
  cases h1 : H p with
  | none => rfl
  | some o =>
    rw [e p o h1] at h
    cases h

/-! ### what is frozen may be locked (known to the object) while it is walked, and from then on -/
def Lk : HO → Bool
  | .dK _ => true
  | .ext _ => true
  | _ => false
def Lx (F H : Hp) : Prop := ∀ a o, F a = some o → H a = some o ∨ (Lk o = true ∧ ∃ od, H a = some (.frz od o))
section
variable {F F1 H H' : Hp} {a : Addr} {o : HO}
theorem Lx.of (e : Ex F H) : Lx F H := fun a o h => .inl (e a o h)
theorem Lx.pre (e : Ex F F1) (l : Lx F1 H) : Lx F H := fun a o h => l a o (e a o h)
theorem Lx.post (l : Lx F H) (e : Ex H H') : Lx F H' := fun a o h => (l a o h).elim (fun z => .inl (e _ _ z)) fun ⟨z, od, y⟩ => .inr ⟨z, od, e _ _ y⟩
theorem Lx.x (l : Lx F H) (h : F a = some o) (n : Lk o = false := by rfl) : H a = some o := (l a o h).elim id fun ⟨z, _⟩ => by rw [n] at z; cases z
theorem Lx.rd (l : Lx F H) (h : F a = some o) : Rd H a o := (l a o h).elim .inl fun ⟨_, od, y⟩ => .inr ⟨od, y⟩
theorem Lx.rdl {xs : List V} (l : Lx F H) (h : Rd F a (.lst xs)) : Rd H a (.lst xs) := by
  rcases h with h | ⟨o, h⟩
  · exact .inl (l.x h)
  · exact .inr ⟨o, l.x h⟩
theorem Lx.rdt {xs : List V} (l : Lx F H) (h : Rd F a (.tup xs)) : Rd H a (.tup xs) := by
  rcases h with h | ⟨o, h⟩
  · exact .inl (l.x h)
  · exact .inr ⟨o, l.x h⟩
theorem Lx.l {K : PySem.W.Frag} {xs : List V} (l : Lx F H) (h : SqL K F a xs) : SqL K H a xs := by
  rcases h with h | h
  · exact .inl (l.rdl h)
  · exact .inr h
theorem Lx.t {K : PySem.W.Frag} {xs : List V} (l : Lx F H) (h : SqT K F a xs) : SqT K H a xs := by
  rcases h with h | h
  · exact .inl (l.rdt h)
  · exact .inr h
theorem Lx.back {p : Addr} (e : Lx F H) (h : H p = none) : F p = none := by
  cases h1 : F p with
  | none => rfl
  | some o =>
    rcases e p o h1 with z | ⟨_, _, z⟩
    · rw [h] at z; cases z
    · rw [h] at z; cases z
theorem Lx.mut {p : Addr} {u : HO} (l : Lx F H) (f : F p = none) : Lx F (upd H p u) := fun a o h => by
  have ne : a ≠ p := fun z => by rw [z, f] at h; cases h
  rw [upd_ne ne]
  exact l a o h
theorem Lx.stands (l : Lx F H) (h : F a = some o) : ∃ u, H a = some u := (l a o h).elim (fun z => ⟨_, z⟩) fun ⟨_, od, y⟩ => ⟨_, y⟩
end

/-- the written part, the classes by number -/
structure Cn where
  K : PySem.W.Frag
  cls : Nat → Addr
  w : World

/-! ### dicts whose keys are tuples, nested as they may be -/
mutual
/-- the value v is the key k -/
def KRep (H : Hp) : V → NestedKey → Prop
  | v, .none => v = .non
  | v, .num i => v = .int i
  | v, .text x => v = .str x
  | v, .tup ks => ∃ a vs, v = .ref a ∧ H a = some (.tup vs) ∧ KReps H vs ks
def KReps (H : Hp) : List V → List NestedKey → Prop
  | vs, [] => vs = []
  | vs, k :: ks => ∃ v r, vs = v :: r ∧ KRep H v k ∧ KReps H r ks
end
section
variable {H H' : Hp}
mutual
theorem KRep.mono (e : Ex H H') : ∀ {v : V} (k : NestedKey), KRep H v k → KRep H' v k
  | _, .none, h => h
  | _, .num _, h => h
  | _, .text _, h => h
  | _, .tup ks, h => by
    unfold KRep at h ⊢
    obtain ⟨a, vs, e1, e2, e3⟩ := h
    exact ⟨a, vs, e1, e _ _ e2, KReps.mono e ks e3⟩
theorem KReps.mono (e : Ex H H') : ∀ {vs : List V} (ks : List NestedKey), KReps H vs ks → KReps H' vs ks
  | _, [], h => h
  | _, k :: ks, h => by
    unfold KReps at h ⊢
    obtain ⟨v, r, e1, e2, e3⟩ := h
    exact ⟨v, r, e1, KRep.mono e k e2, KReps.mono e ks e3⟩
end
end
/-- an entry of such a dict -/
def entryN (w : World) (x : NestedKey × Addr × Value) : DictEntry := ⟨x.1.hash w, .ref x.2.1, x.2.2⟩
/-- at a stands a dict with these keys (each a tuple at its address) and values -/
def NDict (w : World) (a : Addr) (xs : List (NestedKey × Addr × V)) : Heap → Prop := fun h =>
  xs.length ≤ sizeLine ∧ (a == sysModules) = false ∧ ∃ ys : List (NestedKey × Addr × Value), Paired (fun (p : NestedKey × Addr × V) (q : NestedKey × Addr × Value) => p.1 = q.1 ∧ p.2.1 = q.2.1 ∧ RelV p.2.2 q.2.2) xs ys ∧
    ∃ o es ep, h.get? a = some o ∧ o.ExactDict ∧ o.data = .dict es ep ∧ es.toList = ys.map (entryN w) ∧ (ys.map (·.1)).Nodup
def NDo (w : World) (a : Addr) (xs : List (NestedKey × Addr × V)) : HO := .ext (NDict w a xs)

/-- the keys stand at their places -/
def KsOk (H : Hp) (xs : List (NestedKey × Addr × V)) : Prop := ∀ x ∈ xs, KRep H (.ref x.2.1) x.1 ∧ x.1.depth ≤ 8
section
variable {F H : Hp}
mutual
theorem KRep.lx (e : Lx F H) : ∀ {v : V} (k : NestedKey), KRep F v k → KRep H v k
  | _, .none, h => h
  | _, .num _, h => h
  | _, .text _, h => h
  | _, .tup ks, h => by
    unfold KRep at h ⊢
    obtain ⟨a, vs, e1, e2, e3⟩ := h
    exact ⟨a, vs, e1, e.x e2, KReps.lx e ks e3⟩
theorem KReps.lx (e : Lx F H) : ∀ {vs : List V} (ks : List NestedKey), KReps F vs ks → KReps H vs ks
  | _, [], h => h
  | _, k :: ks, h => by
    unfold KReps at h ⊢
    obtain ⟨v, r, e1, e2, e3⟩ := h
    exact ⟨v, r, e1, KRep.lx e k e2, KReps.lx e ks e3⟩
end
theorem KsOk.lx {xs : List (NestedKey × Addr × V)} (e : Lx F H) (h : KsOk F xs) : KsOk H xs := fun x hx => ⟨(h x hx).1.lx e, (h x hx).2⟩
theorem KsOk.mono {xs : List (NestedKey × Addr × V)} (e : Ex F H) (h : KsOk F xs) : KsOk H xs := fun x hx => ⟨(h x hx).1.mono e, (h x hx).2⟩
end
section
variable {P : Program} {w : World} {H : Hp} {h : Heap}
mutual
/-- a key, in the machine's own words -/
theorem kis (I : HOk P w H h) : ∀ {v : V} {u : Value} (k : NestedKey), KRep H v k → RelV v u → NestedIs h k u
  | _, _, .none, e, r => by
    unfold KRep at e
    subst e
    cases r
    exact .none
  | _, _, .num i, e, r => by
    unfold KRep at e
    subst e
    obtain ⟨t, rfl⟩ := r
    exact .int i t
  | _, _, .text x, e, r => by
    unfold KRep at e
    subst e
    obtain ⟨t, rfl⟩ := r
    exact .text x t
  | _, _, .tup ks, e, r => by
    unfold KRep at e
    obtain ⟨a, vs, rfl, e2, e3⟩ := e
    cases r
    obtain ⟨_, its, rv, o, h1, h2, n, h3⟩ := (show ObjOk P w H h a (.tup vs) from I a _ e2)
    exact .tup h1 h2 h3 (kiss I ks e3 rv)
theorem kiss (I : HOk P w H h) : ∀ {vs : List V} {us : List Value} (ks : List NestedKey), KReps H vs ks → Vals vs us → NestedAll h ks us
  | _, _, [], e, r => by
    unfold KReps at e
    subst e
    cases r
    exact .nil
  | _, _, k :: ks, e, r => by
    unfold KReps at e
    obtain ⟨v, q, rfl, e2, e3⟩ := e
    cases r with
    | cons r1 r2 => exact .cons (kis I k e2 r1) (kiss I ks e3 r2)
end
abbrev NPair : List (NestedKey × Addr × V) → List (NestedKey × Addr × Value) → Prop := Paired (fun (p : NestedKey × Addr × V) (q : NestedKey × Addr × Value) => p.1 = q.1 ∧ p.2.1 = q.2.1 ∧ RelV p.2.2 q.2.2)
theorem NPair.mem : ∀ {xs : List (NestedKey × Addr × V)} {ys : List (NestedKey × Addr × Value)}, NPair xs ys → ∀ y ∈ ys, ∃ x ∈ xs, x.1 = y.1 ∧ x.2.1 = y.2.1 ∧ RelV x.2.2 y.2.2
  | _, _, .nil, y, hy => nomatch hy
  | _, _, .cons r t, y, hy => by
    rcases List.mem_cons.mp hy with rfl | hy
    · exact ⟨_, List.mem_cons_self, r⟩
    · obtain ⟨x, hx, q⟩ := NPair.mem t y hy
      exact ⟨x, List.mem_cons_of_mem _ hx, q⟩
/-- such a dict, in the library's words -/
theorem nd_of {a : Addr} {xs : List (NestedKey × Addr × V)} (I : HOk P w H h) (e : Rd H a (NDo w a xs)) (ks : KsOk H xs) : xs.length ≤ sizeLine ∧ (a == sysModules) = false ∧ ∃ ys, NPair xs ys ∧ h.DictOfH (nestedKind P w) a ys := by
  obtain ⟨⟨l, sm, ys, p, o, es, ep, h1, h2, h3, h4, h5⟩, _⟩ := (show ObjOk P w H h a (NDo w a xs) from e.ok I)
  refine ⟨l, sm, ys, p, o, es, ep, h1, h2, h3, h4, fun y hy => ?_, h5⟩
  obtain ⟨x, hx, e1, e2, _⟩ := NPair.mem p y hy
  obtain ⟨k1, k2⟩ := ks x hx
  rw [← e1, ← e2]
  exact ⟨kis I _ k1 rfl, k2⟩
end

/-! ### what a value stands for -/
mutual
def Rep (G : Cn) (H : Hp) : V → D → Prop
  | v, .non => v = .non
  | v, .bl b => v = .bl b
  | v, .int i => v = .int i
  | v, .str x => v = .str x
  | v, .tup ds => ∃ a vs, v = .ref a ∧ H a = some (.tup vs) ∧ Reps G H vs ds
  | v, .lst ds => ∃ a vs, v = .ref a ∧ H a = some (.lst vs) ∧ Reps G H vs ds
  | v, .dic kds => ∃ a kvs, v = .ref a ∧ H a = some (.dK kvs) ∧ RepsK G H kvs kds
  | v, .ins c fds => ∃ a dx fvs, v = .ref a ∧ H a = some (.ins (G.cls c) dx fvs) ∧ RepsF G H fvs fds
  | v, .scr ns => ∃ a, v = .ref a ∧ SqL G.K H a (ns.map V.int)
  | v, .dcn kds => ∃ a xs, v = .ref a ∧ H a = some (NDo G.w a xs) ∧ RepsN G H xs kds
  | v, .cls c => v = .ref (G.cls c)
  | v, .emp => ∃ a, v = .ref a ∧ SqT G.K (fun _ => none) a []
def Reps (G : Cn) (H : Hp) : List V → List D → Prop
  | vs, [] => vs = []
  | vs, d :: ds => ∃ v r, vs = v :: r ∧ Rep G H v d ∧ Reps G H r ds
def RepsK (G : Cn) (H : Hp) : List (Key × V) → List (Key × D) → Prop
  | kvs, [] => kvs = []
  | kvs, (k, d) :: ds => ∃ v r, kvs = (k, v) :: r ∧ Rep G H v d ∧ RepsK G H r ds
def RepsF (G : Cn) (H : Hp) : List (Str × V) → List (Str × D) → Prop
  | kvs, [] => kvs = []
  | kvs, (k, d) :: ds => ∃ v r, kvs = (k, v) :: r ∧ Rep G H v d ∧ RepsF G H r ds
def RepsN (G : Cn) (H : Hp) : List (NestedKey × Addr × V) → List (NestedKey × D) → Prop
  | xs, [] => xs = []
  | xs, (k, d) :: ds => ∃ q v r, xs = (k, q, v) :: r ∧ (KRep H (.ref q) k ∧ k.depth ≤ 8) ∧ Rep G H v d ∧ RepsN G H r ds
end
section
variable {G : Cn} {H H' : Hp}
mutual
theorem Rep.mono (e : Ex H H') : ∀ {v : V} (d : D), Rep G H v d → Rep G H' v d
  | _, .non, h => h
  | _, .bl _, h => h
  | _, .int _, h => h
  | _, .str _, h => h
  | _, .cls _, h => h
  | _, .emp, h => by
    unfold Rep at h ⊢
    exact h
  | _, .scr _, h => by
    unfold Rep at h ⊢
    obtain ⟨a, e1, e2⟩ := h
    exact ⟨a, e1, e.l e2⟩
  | _, .tup ds, h => by
    unfold Rep at h ⊢
    obtain ⟨a, vs, e1, e2, e3⟩ := h
    exact ⟨a, vs, e1, e _ _ e2, Reps.mono e ds e3⟩
  | _, .lst ds, h => by
    unfold Rep at h ⊢
    obtain ⟨a, vs, e1, e2, e3⟩ := h
    exact ⟨a, vs, e1, e _ _ e2, Reps.mono e ds e3⟩
  | _, .dic ds, h => by
    unfold Rep at h ⊢
    obtain ⟨a, vs, e1, e2, e3⟩ := h
    exact ⟨a, vs, e1, e _ _ e2, RepsK.mono e ds e3⟩
  | _, .ins c ds, h => by
    unfold Rep at h ⊢
    obtain ⟨a, dx, vs, e1, e2, e3⟩ := h
    exact ⟨a, dx, vs, e1, e _ _ e2, RepsF.mono e ds e3⟩
  | _, .dcn ds, h => by
    unfold Rep at h ⊢
    obtain ⟨a, vs, e1, e2, e3⟩ := h
    exact ⟨a, vs, e1, e _ _ e2, RepsN.mono e ds e3⟩
theorem RepsN.mono (e : Ex H H') : ∀ {vs : List (NestedKey × Addr × V)} (ds : List (NestedKey × D)), RepsN G H vs ds → RepsN G H' vs ds
  | _, [], h => h
  | _, (k, d) :: ds, h => by
    unfold RepsN at h ⊢
    obtain ⟨q, v, r, e1, e2, e3, e4⟩ := h
    exact ⟨q, v, r, e1, ⟨e2.1.mono e, e2.2⟩, Rep.mono e d e3, RepsN.mono e ds e4⟩
theorem Reps.mono (e : Ex H H') : ∀ {vs : List V} (ds : List D), Reps G H vs ds → Reps G H' vs ds
  | _, [], h => h
  | _, d :: ds, h => by
    unfold Reps at h ⊢
    obtain ⟨v, r, e1, e2, e3⟩ := h
    exact ⟨v, r, e1, Rep.mono e d e2, Reps.mono e ds e3⟩
theorem RepsK.mono (e : Ex H H') : ∀ {vs : List (Key × V)} (ds : List (Key × D)), RepsK G H vs ds → RepsK G H' vs ds
  | _, [], h => h
  | _, (k, d) :: ds, h => by
    unfold RepsK at h ⊢
    obtain ⟨v, r, e1, e2, e3⟩ := h
    exact ⟨v, r, e1, Rep.mono e d e2, RepsK.mono e ds e3⟩
theorem RepsF.mono (e : Ex H H') : ∀ {vs : List (Str × V)} (ds : List (Str × D)), RepsF G H vs ds → RepsF G H' vs ds
  | _, [], h => h
  | _, (k, d) :: ds, h => by
    unfold RepsF at h ⊢
    obtain ⟨v, r, e1, e2, e3⟩ := h
    exact ⟨v, r, e1, Rep.mono e d e2, RepsF.mono e ds e3⟩
end
theorem RepsN.ks : ∀ {xs : List (NestedKey × Addr × V)} {ds : List (NestedKey × D)}, RepsN G H xs ds → KsOk H xs
  | _, [], h, x, hx => by
    unfold RepsN at h
    subst h
    cases hx
  | _, (k, d) :: ds, h, x, hx => by
    unfold RepsN at h
    obtain ⟨q, v, r, rfl, e2, _, e4⟩ := h
    rcases List.mem_cons.mp hx with rfl | hx
    · exact e2
    · exact RepsN.ks e4 x hx
theorem Reps.cons {v : V} {vs : List V} {d : D} {ds : List D} (h : Rep G H v d) (t : Reps G H vs ds) : Reps G H (v :: vs) (d :: ds) := by
  unfold Reps
  exact ⟨v, vs, rfl, h, t⟩
theorem Reps.nil : Reps G H [] [] := by
  unfold Reps
  rfl
theorem Reps.of_nil {vs : List V} (h : Reps G H vs []) : vs = [] := by
  unfold Reps at h
  exact h
theorem Reps.of_cons {vs : List V} {d : D} {ds : List D} (h : Reps G H vs (d :: ds)) : ∃ v r, vs = v :: r ∧ Rep G H v d ∧ Reps G H r ds := by
  unfold Reps at h
  exact h
theorem Reps.length : ∀ {vs : List V} {ds : List D}, Reps G H vs ds → vs.length = ds.length
  | _, [], h => by
    rw [h.of_nil]
    rfl
  | _, d :: ds, h => by
    obtain ⟨v, r, rfl, _, t⟩ := h.of_cons
    rw [List.length_cons, List.length_cons, Reps.length t]
theorem Reps.get : ∀ {vs : List V} {ds : List D} {i : Nat} {d : D}, Reps G H vs ds → ds[i]? = some d → ∃ v, vs[i]? = some v ∧ Rep G H v d
  | _, [], i, d, h, e => by simp at e
  | _, d' :: ds, 0, d, h, e => by
    obtain ⟨v, r, rfl, q, t⟩ := h.of_cons
    have e' : d' = d := by simpa using e
    subst e'
    exact ⟨v, rfl, q⟩
  | _, d' :: ds, i + 1, d, h, e => by
    obtain ⟨v, r, rfl, q, t⟩ := h.of_cons
    obtain ⟨u, h1, h2⟩ := Reps.get (i := i) (d := d) t (by simpa using e)
    refine ⟨u, ?_, h2⟩
    simpa using h1
theorem Reps.get' : ∀ {vs : List V} {ds : List D} {i : Nat} {v : V}, Reps G H vs ds → vs[i]? = some v → ∃ d, ds[i]? = some d ∧ Rep G H v d := fun {vs ds i v} h e => by
  have l := h.length
  have hi := (List.getElem?_eq_some_iff.mp e).1
  obtain ⟨d, hd⟩ : ∃ d, ds[i]? = some d := ⟨ds[i]'(by omega), List.getElem?_eq_getElem (by omega)⟩
  obtain ⟨u, h1, h2⟩ := h.get hd
  rw [e] at h1
  cases h1
  exact ⟨d, hd, h2⟩
theorem Reps.append : ∀ {vs ws : List V} {ds es : List D}, Reps G H vs ds → Reps G H ws es → Reps G H (vs ++ ws) (ds ++ es)
  | _, _, [], _, h, t => by
    rw [h.of_nil]
    exact t
  | _, _, d :: ds, _, h, t => by
    obtain ⟨v, r, rfl, q, u⟩ := h.of_cons
    exact Reps.cons q (Reps.append u t)
theorem Reps.take : ∀ {vs : List V} {ds : List D} (n : Nat), Reps G H vs ds → Reps G H (vs.take n) (ds.take n)
  | _, _, 0, _ => by simpa using Reps.nil
  | _, [], n + 1, h => by
    rw [h.of_nil]
    simpa using Reps.nil
  | _, d :: ds, n + 1, h => by
    obtain ⟨v, r, rfl, q, u⟩ := h.of_cons
    simpa using Reps.cons q (Reps.take n u)
theorem Reps.drop : ∀ {vs : List V} {ds : List D} (n : Nat), Reps G H vs ds → Reps G H (vs.drop n) (ds.drop n)
  | _, _, 0, h => by simpa using h
  | _, [], n + 1, h => by
    rw [h.of_nil]
    simpa using Reps.nil
  | _, d :: ds, n + 1, h => by
    obtain ⟨v, r, rfl, q, u⟩ := h.of_cons
    simpa using Reps.drop n u
theorem Reps.reverse : ∀ {vs : List V} {ds : List D}, Reps G H vs ds → Reps G H vs.reverse ds.reverse
  | _, [], h => by
    rw [h.of_nil]
    exact Reps.nil
  | _, d :: ds, h => by
    obtain ⟨v, r, rfl, q, u⟩ := h.of_cons
    simp only [List.reverse_cons]
    exact (Reps.reverse u).append (Reps.cons q Reps.nil)
theorem Reps.erase : ∀ {vs : List V} {ds : List D} (n : Nat), Reps G H vs ds → Reps G H (vs.eraseIdx n) (ds.eraseIdx n)
  | _, [], n, h => by
    rw [h.of_nil]
    simpa using Reps.nil
  | _, d :: ds, 0, h => by
    obtain ⟨v, r, rfl, q, u⟩ := h.of_cons
    simpa using u
  | _, d :: ds, n + 1, h => by
    obtain ⟨v, r, rfl, q, u⟩ := h.of_cons
    simpa using Reps.cons q (Reps.erase n u)
theorem Reps.set {v : V} {d : D} (q : Rep G H v d) : ∀ {vs : List V} {ds : List D} (n : Nat), Reps G H vs ds → Reps G H (vs.set n v) (ds.set n d)
  | _, [], n, h => by
    rw [h.of_nil]
    simpa using Reps.nil
  | _, d' :: ds, 0, h => by
    obtain ⟨v, r, rfl, _, u⟩ := h.of_cons
    simpa using Reps.cons q u
  | _, d' :: ds, n + 1, h => by
    obtain ⟨v, r, rfl, q', u⟩ := h.of_cons
    simpa using Reps.cons q' (Reps.set q n u)
theorem Reps.one {v : V} {d : D} (q : Rep G H v d) : Reps G H [v] [d] := Reps.cons q Reps.nil
end
end VL

namespace VL
open PySem PySem.Spec
open PyProof.Rows L2
open Evl (Ex sz_of)

/-- an object of one's own, with others of one's own in it -/
inductive T where
  | d (x : D) | l (ts : List T) | k (kts : List (Key × T)) | n (kts : List (NestedKey × T)) | i (c : Nat) (fts : List (Str × T))
  deriving Inhabited
mutual
def T.frz : T → D
  | .d x => x
  | .l ts => .lst (T.frzs ts)
  | .k ts => .dic (T.frzk ts)
  | .n ts => .dcn (T.frzn ts)
  | .i c ts => .ins c (T.frzf ts)
def T.frzs : List T → List D
  | [] => []
  | t :: ts => t.frz :: T.frzs ts
def T.frzk : List (Key × T) → List (Key × D)
  | [] => []
  | (x, t) :: ts => (x, t.frz) :: T.frzk ts
def T.frzn : List (NestedKey × T) → List (NestedKey × D)
  | [] => []
  | (x, t) :: ts => (x, t.frz) :: T.frzn ts
def T.frzf : List (Str × T) → List (Str × D)
  | [] => []
  | (x, t) :: ts => (x, t.frz) :: T.frzf ts
end
/-- what a slot holds, what an expression gives: data, or an object that nobody else knows -/
inductive O where
  | val (d : D) | lst (ds : List D) | dic (kds : List (Key × D)) | ins (c : Nat) (fs : List (Str × D)) | ll (dss : List (List D))
  | dcn (kds : List (NestedKey × D)) | tr (t : T)
  deriving Inhabited
def O.frz : O → D
  | .val d => d
  | .lst ds => .lst ds
  | .dic k => .dic k
  | .ins c f => .ins c f
  | .ll dss => .lst (dss.map .lst)
  | .dcn k => .dcn k
  | .tr t => t.frz
def O.isOwn : O → Bool
  | .val _ => false
  | _ => true
abbrev Rho := List (Option O)
inductive Rs (A : Type) where
  | ok (o : A) | ex (c : Nat) (fs : Option (List (Str × D)))
abbrev Res := Rs O
abbrev M := Rho → Option (Res × Rho)

def RepLL (G : Cn) (F H : Hp) : List Addr → List (List D) → Prop
  | bs, [] => bs = []
  | bs, ds :: dss => ∃ b r vs, bs = b :: r ∧ F b = none ∧ H b = some (.lst vs) ∧ Reps G F vs ds ∧ RepLL G F H r dss
mutual
def RepT (G : Cn) (F H : Hp) : List Addr → V → T → Prop
  | β, v, .d x => β = [] ∧ Rep G F v x
  | β, v, .l ts => ∃ a vs r, v = .ref a ∧ β = a :: r ∧ F a = none ∧ H a = some (.lst vs) ∧ RepTs G F H r vs ts
  | β, v, .k ts => ∃ a vs r, v = .ref a ∧ β = a :: r ∧ F a = none ∧ H a = some (.dK vs) ∧ RepTk G F H r vs ts
  | β, v, .n ts => ∃ a vs r, v = .ref a ∧ β = a :: r ∧ F a = none ∧ H a = some (NDo G.w a vs) ∧ RepTn G F H r vs ts
  | β, v, .i c ts => ∃ a dx vs r, v = .ref a ∧ β = a :: dx :: r ∧ F a = none ∧ F dx = none ∧ H a = some (.ins (G.cls c) dx vs) ∧ H dx = some (.own a) ∧ RepTf G F H r vs ts
def RepTs (G : Cn) (F H : Hp) : List Addr → List V → List T → Prop
  | β, vs, [] => β = [] ∧ vs = []
  | β, vs, t :: ts => ∃ v r β1 β2, vs = v :: r ∧ β = β1 ++ β2 ∧ RepT G F H β1 v t ∧ RepTs G F H β2 r ts
def RepTk (G : Cn) (F H : Hp) : List Addr → List (Key × V) → List (Key × T) → Prop
  | β, vs, [] => β = [] ∧ vs = []
  | β, vs, (x, t) :: ts => ∃ v r β1 β2, vs = (x, v) :: r ∧ β = β1 ++ β2 ∧ RepT G F H β1 v t ∧ RepTk G F H β2 r ts
def RepTn (G : Cn) (F H : Hp) : List Addr → List (NestedKey × Addr × V) → List (NestedKey × T) → Prop
  | β, vs, [] => β = [] ∧ vs = []
  | β, vs, (x, t) :: ts => ∃ q v r β1 β2, vs = (x, q, v) :: r ∧ β = β1 ++ β2 ∧ (KRep F (.ref q) x ∧ x.depth ≤ 8) ∧ RepT G F H β1 v t ∧ RepTn G F H β2 r ts
def RepTf (G : Cn) (F H : Hp) : List Addr → List (Str × V) → List (Str × T) → Prop
  | β, vs, [] => β = [] ∧ vs = []
  | β, vs, (x, t) :: ts => ∃ v r β1 β2, vs = (x, v) :: r ∧ β = β1 ++ β2 ∧ RepT G F H β1 v t ∧ RepTf G F H β2 r ts
end
def RepO (G : Cn) (F H : Hp) (β : List Addr) (v : V) : O → Prop
  | .val d => β = [] ∧ Rep G F v d
  | .lst ds => ∃ a vs, v = .ref a ∧ β = [a] ∧ F a = none ∧ H a = some (.lst vs) ∧ Reps G F vs ds
  | .dic kds => ∃ a kvs, v = .ref a ∧ β = [a] ∧ F a = none ∧ H a = some (.dK kvs) ∧ RepsK G F kvs kds
  | .ins c fds => ∃ a dx fvs, v = .ref a ∧ β = [a, dx] ∧ dx ≠ a ∧ F a = none ∧ F dx = none ∧ H a = some (.ins (G.cls c) dx fvs) ∧ H dx = some (.own a) ∧ RepsF G F fvs fds
  | .ll dss => ∃ a bs, v = .ref a ∧ β = a :: bs ∧ (a :: bs).Nodup ∧ F a = none ∧ H a = some (.lst (bs.map V.ref)) ∧ RepLL G F H bs dss
  | .dcn kds => ∃ a xs, v = .ref a ∧ β = [a] ∧ F a = none ∧ H a = some (NDo G.w a xs) ∧ RepsN G F xs kds
  | .tr t => β.Nodup ∧ RepT G F H β v t
abbrev Al := Nat → List Addr
def Own (α : Al) (a : Addr) : Prop := ∃ i, a ∈ α i

section
variable {G : Cn} {F F' H H' : Hp}
theorem RepLL.mem : ∀ {bs : List Addr} {dss : List (List D)}, RepLL G F H bs dss → ∀ b ∈ bs, F b = none ∧ ∃ o, H b = some o
  | _, [], h, b, hb => by
    unfold RepLL at h
    subst h
    cases hb
  | _, ds :: dss, h, b, hb => by
    unfold RepLL at h
    obtain ⟨c, r, vs, rfl, e1, e2, _, t⟩ := h
    rcases List.mem_cons.mp hb with rfl | hb
    · exact ⟨e1, _, e2⟩
    · exact RepLL.mem t b hb
theorem RepLL.move (e : Ex F F') : ∀ {bs : List Addr} {dss : List (List D)}, RepLL G F H bs dss → (∀ b ∈ bs, F' b = none) → (∀ b ∈ bs, ∀ o, H b = some o → H' b = some o) → RepLL G F' H' bs dss
  | _, [], h, _, _ => h
  | _, ds :: dss, h, h1, h2 => by
    unfold RepLL at h ⊢
    obtain ⟨c, r, vs, rfl, e1, e2, e3, t⟩ := h
    exact ⟨c, r, vs, rfl, h1 c List.mem_cons_self, h2 c List.mem_cons_self _ e2, e3.mono e, RepLL.move e t (fun b hb => h1 b (List.mem_cons_of_mem _ hb)) fun b hb => h2 b (List.mem_cons_of_mem _ hb)⟩
theorem RepLL.reps (e : Ex F F') : ∀ {bs : List Addr} {dss : List (List D)}, RepLL G F H bs dss → (∀ b ∈ bs, ∀ o, H b = some o → F' b = some o) → Reps G F' (bs.map V.ref) (dss.map D.lst)
  | _, [], h, _ => by
    unfold RepLL at h
    subst h
    exact Reps.nil
  | _, ds :: dss, h, h2 => by
    unfold RepLL at h
    obtain ⟨c, r, vs, rfl, e1, e2, e3, t⟩ := h
    refine Reps.cons ?_ (RepLL.reps e t fun b hb => h2 b (List.mem_cons_of_mem _ hb))
    unfold Rep
    exact ⟨c, vs, rfl, h2 c List.mem_cons_self _ e2, e3.mono e⟩
/-! what is owned within it stands -/
section
def Kp (F H : Hp) (b : Addr) : Prop := F b = none ∧ ∃ o, H b = some o
mutual
theorem RepT.mem : ∀ {β : List Addr} {v : V} (t : T), RepT G F H β v t → ∀ b ∈ β, F b = none ∧ ∃ o, H b = some o
  | β, v, .d x, h, b, hb => by
    unfold RepT at h
    rw [h.1] at hb
    cases hb
  | β, v, .l ts, h, b, hb => by
    unfold RepT at h
    obtain ⟨a, vs, r, _, rfl, e1, e2, e3⟩ := h
    rcases List.mem_cons.mp hb with rfl | hb
    · exact ⟨e1, _, e2⟩
    · exact RepTs.mem ts e3 b hb
  | β, v, .k ts, h, b, hb => by
    unfold RepT at h
    obtain ⟨a, vs, r, _, rfl, e1, e2, e3⟩ := h
    rcases List.mem_cons.mp hb with rfl | hb
    · exact ⟨e1, _, e2⟩
    · exact RepTk.mem ts e3 b hb
  | β, v, .n ts, h, b, hb => by
    unfold RepT at h
    obtain ⟨a, vs, r, _, rfl, e1, e2, e3⟩ := h
    rcases List.mem_cons.mp hb with rfl | hb
    · exact ⟨e1, _, e2⟩
    · exact RepTn.mem ts e3 b hb
  | β, v, .i c ts, h, b, hb => by
    unfold RepT at h
    obtain ⟨a, dx, vs, r, _, rfl, e1, e2, e3, e4, e5⟩ := h
    rcases List.mem_cons.mp hb with rfl | hb
    · exact ⟨e1, _, e3⟩
    · rcases List.mem_cons.mp hb with rfl | hb
      · exact ⟨e2, _, e4⟩
      · exact RepTf.mem ts e5 b hb
theorem RepTs.mem : ∀ {β : List Addr} {vs : List V} (ts : List T), RepTs G F H β vs ts → ∀ b ∈ β, F b = none ∧ ∃ o, H b = some o
  | β, vs, [], h, b, hb => by
    unfold RepTs at h
    rw [h.1] at hb
    cases hb
  | β, vs, t :: ts, h, b, hb => by
    unfold RepTs at h
    obtain ⟨v, r, β1, β2, _, rfl, h1, h2⟩ := h
    rcases List.mem_append.mp hb with hb | hb
    · exact RepT.mem t h1 b hb
    · exact RepTs.mem ts h2 b hb
theorem RepTk.mem : ∀ {β : List Addr} {vs : List (Key × V)} (ts : List (Key × T)), RepTk G F H β vs ts → ∀ b ∈ β, F b = none ∧ ∃ o, H b = some o
  | β, vs, [], h, b, hb => by
    unfold RepTk at h
    rw [h.1] at hb
    cases hb
  | β, vs, (x, t) :: ts, h, b, hb => by
    unfold RepTk at h
    obtain ⟨v, r, β1, β2, _, rfl, h1, h2⟩ := h
    rcases List.mem_append.mp hb with hb | hb
    · exact RepT.mem t h1 b hb
    · exact RepTk.mem ts h2 b hb
theorem RepTn.mem : ∀ {β : List Addr} {vs : List (NestedKey × Addr × V)} (ts : List (NestedKey × T)), RepTn G F H β vs ts → ∀ b ∈ β, F b = none ∧ ∃ o, H b = some o
  | β, vs, [], h, b, hb => by
    unfold RepTn at h
    rw [h.1] at hb
    cases hb
  | β, vs, (x, t) :: ts, h, b, hb => by
    unfold RepTn at h
    obtain ⟨q, v, r, β1, β2, _, rfl, _, h1, h2⟩ := h
    rcases List.mem_append.mp hb with hb | hb
    · exact RepT.mem t h1 b hb
    · exact RepTn.mem ts h2 b hb
theorem RepTf.mem : ∀ {β : List Addr} {vs : List (Str × V)} (ts : List (Str × T)), RepTf G F H β vs ts → ∀ b ∈ β, F b = none ∧ ∃ o, H b = some o
  | β, vs, [], h, b, hb => by
    unfold RepTf at h
    rw [h.1] at hb
    cases hb
  | β, vs, (x, t) :: ts, h, b, hb => by
    unfold RepTf at h
    obtain ⟨v, r, β1, β2, _, rfl, h1, h2⟩ := h
    rcases List.mem_append.mp hb with hb | hb
    · exact RepT.mem t h1 b hb
    · exact RepTf.mem ts h2 b hb
end
mutual
theorem RepT.move (e : Ex F F') : ∀ {β : List Addr} {v : V} (t : T), RepT G F H β v t → (∀ b ∈ β, F' b = none) → (∀ b ∈ β, ∀ o, H b = some o → H' b = some o) → RepT G F' H' β v t
  | β, v, .d x, h, h1, h2 => by
    unfold RepT at h ⊢
    exact ⟨h.1, h.2.mono e⟩
  | β, v, .l ts, h, h1, h2 => by
    unfold RepT at h ⊢
    obtain ⟨a, vs, r, ev, rfl, e1, e2, e3⟩ := h
    exact ⟨a, vs, r, ev, rfl, h1 a (by simp), h2 a (by simp) _ e2, RepTs.move e ts e3 (fun b hb => h1 b (List.mem_cons_of_mem _ hb)) fun b hb => h2 b (List.mem_cons_of_mem _ hb)⟩
  | β, v, .k ts, h, h1, h2 => by
    unfold RepT at h ⊢
    obtain ⟨a, vs, r, ev, rfl, e1, e2, e3⟩ := h
    exact ⟨a, vs, r, ev, rfl, h1 a (by simp), h2 a (by simp) _ e2, RepTk.move e ts e3 (fun b hb => h1 b (List.mem_cons_of_mem _ hb)) fun b hb => h2 b (List.mem_cons_of_mem _ hb)⟩
  | β, v, .n ts, h, h1, h2 => by
    unfold RepT at h ⊢
    obtain ⟨a, vs, r, ev, rfl, e1, e2, e3⟩ := h
    exact ⟨a, vs, r, ev, rfl, h1 a (by simp), h2 a (by simp) _ e2, RepTn.move e ts e3 (fun b hb => h1 b (List.mem_cons_of_mem _ hb)) fun b hb => h2 b (List.mem_cons_of_mem _ hb)⟩
  | β, v, .i c ts, h, h1, h2 => by
    unfold RepT at h ⊢
    obtain ⟨a, dx, vs, r, ev, rfl, e1, e2, e3, e4, e5⟩ := h
    exact ⟨a, dx, vs, r, ev, rfl, h1 a (by simp), h1 dx (by simp), h2 a (by simp) _ e3, h2 dx (by simp) _ e4, RepTf.move e ts e5 (fun b hb => h1 b (List.mem_cons_of_mem _ (List.mem_cons_of_mem _ hb))) fun b hb => h2 b (List.mem_cons_of_mem _ (List.mem_cons_of_mem _ hb))⟩
theorem RepTs.move (e : Ex F F') : ∀ {β : List Addr} {vs : List V} (ts : List T), RepTs G F H β vs ts → (∀ b ∈ β, F' b = none) → (∀ b ∈ β, ∀ o, H b = some o → H' b = some o) → RepTs G F' H' β vs ts
  | β, vs, [], h, _, _ => h
  | β, vs, t :: ts, h, h1, h2 => by
    unfold RepTs at h ⊢
    obtain ⟨v, r, β1, β2, ev, rfl, a1, a2⟩ := h
    exact ⟨v, r, β1, β2, ev, rfl, RepT.move e t a1 (fun b hb => h1 b (List.mem_append_left _ hb)) (fun b hb => h2 b (List.mem_append_left _ hb)), RepTs.move e ts a2 (fun b hb => h1 b (List.mem_append_right _ hb)) fun b hb => h2 b (List.mem_append_right _ hb)⟩
theorem RepTk.move (e : Ex F F') : ∀ {β : List Addr} {vs : List (Key × V)} (ts : List (Key × T)), RepTk G F H β vs ts → (∀ b ∈ β, F' b = none) → (∀ b ∈ β, ∀ o, H b = some o → H' b = some o) → RepTk G F' H' β vs ts
  | β, vs, [], h, _, _ => h
  | β, vs, (x, t) :: ts, h, h1, h2 => by
    unfold RepTk at h ⊢
    obtain ⟨v, r, β1, β2, ev, rfl, a1, a2⟩ := h
    exact ⟨v, r, β1, β2, ev, rfl, RepT.move e t a1 (fun b hb => h1 b (List.mem_append_left _ hb)) (fun b hb => h2 b (List.mem_append_left _ hb)), RepTk.move e ts a2 (fun b hb => h1 b (List.mem_append_right _ hb)) fun b hb => h2 b (List.mem_append_right _ hb)⟩
theorem RepTn.move (e : Ex F F') : ∀ {β : List Addr} {vs : List (NestedKey × Addr × V)} (ts : List (NestedKey × T)), RepTn G F H β vs ts → (∀ b ∈ β, F' b = none) → (∀ b ∈ β, ∀ o, H b = some o → H' b = some o) → RepTn G F' H' β vs ts
  | β, vs, [], h, _, _ => h
  | β, vs, (x, t) :: ts, h, h1, h2 => by
    unfold RepTn at h ⊢
    obtain ⟨q, v, r, β1, β2, ev, rfl, hk, a1, a2⟩ := h
    exact ⟨q, v, r, β1, β2, ev, rfl, ⟨hk.1.mono e, hk.2⟩, RepT.move e t a1 (fun b hb => h1 b (List.mem_append_left _ hb)) (fun b hb => h2 b (List.mem_append_left _ hb)), RepTn.move e ts a2 (fun b hb => h1 b (List.mem_append_right _ hb)) fun b hb => h2 b (List.mem_append_right _ hb)⟩
theorem RepTf.move (e : Ex F F') : ∀ {β : List Addr} {vs : List (Str × V)} (ts : List (Str × T)), RepTf G F H β vs ts → (∀ b ∈ β, F' b = none) → (∀ b ∈ β, ∀ o, H b = some o → H' b = some o) → RepTf G F' H' β vs ts
  | β, vs, [], h, _, _ => h
  | β, vs, (x, t) :: ts, h, h1, h2 => by
    unfold RepTf at h ⊢
    obtain ⟨v, r, β1, β2, ev, rfl, a1, a2⟩ := h
    exact ⟨v, r, β1, β2, ev, rfl, RepT.move e t a1 (fun b hb => h1 b (List.mem_append_left _ hb)) (fun b hb => h2 b (List.mem_append_left _ hb)), RepTf.move e ts a2 (fun b hb => h1 b (List.mem_append_right _ hb)) fun b hb => h2 b (List.mem_append_right _ hb)⟩
end
mutual
theorem RepT.frz (e : Ex F F') : ∀ {β : List Addr} {v : V} (t : T), RepT G F H β v t → (∀ b ∈ β, ∀ o, H b = some o → F' b = some o) → Rep G F' v t.frz
  | β, v, .d x, h, h2 => by
    unfold RepT at h
    exact h.2.mono e
  | β, v, .l ts, h, h2 => by
    unfold RepT at h
    obtain ⟨a, vs, r, ev, rfl, e1, e2, e3⟩ := h
    unfold T.frz Rep
    exact ⟨a, vs, ev, h2 a (by simp) _ e2, RepTs.frz e ts e3 fun b hb => h2 b (List.mem_cons_of_mem _ hb)⟩
  | β, v, .k ts, h, h2 => by
    unfold RepT at h
    obtain ⟨a, vs, r, ev, rfl, e1, e2, e3⟩ := h
    unfold T.frz Rep
    exact ⟨a, vs, ev, h2 a (by simp) _ e2, RepTk.frz e ts e3 fun b hb => h2 b (List.mem_cons_of_mem _ hb)⟩
  | β, v, .n ts, h, h2 => by
    unfold RepT at h
    obtain ⟨a, vs, r, ev, rfl, e1, e2, e3⟩ := h
    unfold T.frz Rep
    exact ⟨a, vs, ev, h2 a (by simp) _ e2, RepTn.frz e ts e3 fun b hb => h2 b (List.mem_cons_of_mem _ hb)⟩
  | β, v, .i c ts, h, h2 => by
    unfold RepT at h
    obtain ⟨a, dx, vs, r, ev, rfl, e1, e2, e3, e4, e5⟩ := h
    unfold T.frz Rep
    exact ⟨a, dx, vs, ev, h2 a (by simp) _ e3, RepTf.frz e ts e5 fun b hb => h2 b (List.mem_cons_of_mem _ (List.mem_cons_of_mem _ hb))⟩
theorem RepTs.frz (e : Ex F F') : ∀ {β : List Addr} {vs : List V} (ts : List T), RepTs G F H β vs ts → (∀ b ∈ β, ∀ o, H b = some o → F' b = some o) → Reps G F' vs (T.frzs ts)
  | β, vs, [], h, h2 => by
    unfold RepTs at h
    unfold T.frzs Reps
    exact h.2
  | β, vs, t :: ts, h, h2 => by
    unfold RepTs at h
    obtain ⟨v, r, β1, β2, ev, rfl, a1, a2⟩ := h
    unfold T.frzs Reps
    exact ⟨v, r, ev, RepT.frz e t a1 (fun b hb => h2 b (List.mem_append_left _ hb)), RepTs.frz e ts a2 fun b hb => h2 b (List.mem_append_right _ hb)⟩
theorem RepTk.frz (e : Ex F F') : ∀ {β : List Addr} {vs : List (Key × V)} (ts : List (Key × T)), RepTk G F H β vs ts → (∀ b ∈ β, ∀ o, H b = some o → F' b = some o) → RepsK G F' vs (T.frzk ts)
  | β, vs, [], h, h2 => by
    unfold RepTk at h
    unfold T.frzk RepsK
    exact h.2
  | β, vs, (x, t) :: ts, h, h2 => by
    unfold RepTk at h
    obtain ⟨v, r, β1, β2, ev, rfl, a1, a2⟩ := h
    unfold T.frzk RepsK
    exact ⟨v, r, ev, RepT.frz e t a1 (fun b hb => h2 b (List.mem_append_left _ hb)), RepTk.frz e ts a2 fun b hb => h2 b (List.mem_append_right _ hb)⟩
theorem RepTn.frz (e : Ex F F') : ∀ {β : List Addr} {vs : List (NestedKey × Addr × V)} (ts : List (NestedKey × T)), RepTn G F H β vs ts → (∀ b ∈ β, ∀ o, H b = some o → F' b = some o) → RepsN G F' vs (T.frzn ts)
  | β, vs, [], h, h2 => by
    unfold RepTn at h
    unfold T.frzn RepsN
    exact h.2
  | β, vs, (x, t) :: ts, h, h2 => by
    unfold RepTn at h
    obtain ⟨q, v, r, β1, β2, ev, rfl, hk, a1, a2⟩ := h
    unfold T.frzn RepsN
    exact ⟨q, v, r, ev, ⟨hk.1.mono e, hk.2⟩, RepT.frz e t a1 (fun b hb => h2 b (List.mem_append_left _ hb)), RepTn.frz e ts a2 fun b hb => h2 b (List.mem_append_right _ hb)⟩
theorem RepTf.frz (e : Ex F F') : ∀ {β : List Addr} {vs : List (Str × V)} (ts : List (Str × T)), RepTf G F H β vs ts → (∀ b ∈ β, ∀ o, H b = some o → F' b = some o) → RepsF G F' vs (T.frzf ts)
  | β, vs, [], h, h2 => by
    unfold RepTf at h
    unfold T.frzf RepsF
    exact h.2
  | β, vs, (x, t) :: ts, h, h2 => by
    unfold RepTf at h
    obtain ⟨v, r, β1, β2, ev, rfl, a1, a2⟩ := h
    unfold T.frzf RepsF
    exact ⟨v, r, ev, RepT.frz e t a1 (fun b hb => h2 b (List.mem_append_left _ hb)), RepTf.frz e ts a2 fun b hb => h2 b (List.mem_append_right _ hb)⟩
end
end
theorem RepO.mem {β : List Addr} {v : V} {o : O} (h : RepO G F H β v o) : ∀ b ∈ β, F b = none ∧ ∃ u, H b = some u := by
  intro b hb
  cases o with
  | val d =>
    obtain ⟨rfl, _⟩ := h
    cases hb
  | lst ds =>
    obtain ⟨a, vs, rfl, rfl, e1, e2, _⟩ := h
    have : b = a := by simpa using hb
    subst this
    exact ⟨e1, _, e2⟩
  | dic ds =>
    obtain ⟨a, vs, rfl, rfl, e1, e2, _⟩ := h
    have : b = a := by simpa using hb
    subst this
    exact ⟨e1, _, e2⟩
  | ins c fs =>
    obtain ⟨a, dx, vs, rfl, rfl, _, e1, e2, e3, e4, _⟩ := h
    have : b = a ∨ b = dx := by simpa using hb
    rcases this with rfl | rfl
    · exact ⟨e1, _, e3⟩
    · exact ⟨e2, _, e4⟩
  | ll dss =>
    obtain ⟨a, bs, rfl, rfl, _, e1, e2, t⟩ := h
    rcases List.mem_cons.mp hb with rfl | hb
    · exact ⟨e1, _, e2⟩
    · exact t.mem b hb
  | dcn ds =>
    obtain ⟨a, vs, rfl, rfl, e1, e2, _⟩ := h
    have : b = a := by simpa using hb
    subst this
    exact ⟨e1, _, e2⟩
  | tr t => exact h.2.mem t b hb
theorem RepO.move {β : List Addr} {v : V} {o : O} (e : Ex F F') (h : RepO G F H β v o) (h1 : ∀ b ∈ β, F' b = none) (h2 : ∀ b ∈ β, ∀ u, H b = some u → H' b = some u) : RepO G F' H' β v o := by
  cases o with
  | val d => exact ⟨h.1, h.2.mono e⟩
  | lst ds =>
    obtain ⟨a, vs, rfl, rfl, e1, e2, e3⟩ := h
    exact ⟨a, vs, rfl, rfl, h1 a (by simp), h2 a (by simp) _ e2, e3.mono e⟩
  | dic ds =>
    obtain ⟨a, vs, rfl, rfl, e1, e2, e3⟩ := h
    exact ⟨a, vs, rfl, rfl, h1 a (by simp), h2 a (by simp) _ e2, e3.mono e⟩
  | ins c fs =>
    obtain ⟨a, dx, vs, rfl, rfl, ne, e1, e2, e3, e4, e5⟩ := h
    exact ⟨a, dx, vs, rfl, rfl, ne, h1 a (by simp), h1 dx (by simp), h2 a (by simp) _ e3, h2 dx (by simp) _ e4, e5.mono e⟩
  | ll dss =>
    obtain ⟨a, bs, rfl, rfl, nd, e1, e2, t⟩ := h
    exact ⟨a, bs, rfl, rfl, nd, h1 a (by simp), h2 a (by simp) _ e2, t.move e (fun b hb => h1 b (List.mem_cons_of_mem _ hb)) fun b hb => h2 b (List.mem_cons_of_mem _ hb)⟩
  | dcn ds =>
    obtain ⟨a, vs, rfl, rfl, e1, e2, e3⟩ := h
    exact ⟨a, vs, rfl, rfl, h1 a (by simp), h2 a (by simp) _ e2, e3.mono e⟩
  | tr t => exact ⟨h.1, h.2.move e t h1 h2⟩
/-- frozen -/
theorem RepO.frz {β : List Addr} {v : V} {o : O} (e : Ex F F') (h : RepO G F H β v o) (h2 : ∀ b ∈ β, ∀ u, H b = some u → F' b = some u) : Rep G F' v o.frz := by
  cases o with
  | val d => exact h.2.mono e
  | lst ds =>
    obtain ⟨a, vs, rfl, rfl, e1, e2, e3⟩ := h
    unfold O.frz Rep
    exact ⟨a, vs, rfl, h2 a (by simp) _ e2, e3.mono e⟩
  | dic ds =>
    obtain ⟨a, vs, rfl, rfl, e1, e2, e3⟩ := h
    unfold O.frz Rep
    exact ⟨a, vs, rfl, h2 a (by simp) _ e2, e3.mono e⟩
  | ins c fs =>
    obtain ⟨a, dx, vs, rfl, rfl, ne, e1, e2, e3, e4, e5⟩ := h
    unfold O.frz Rep
    exact ⟨a, dx, vs, rfl, h2 a (by simp) _ e3, e5.mono e⟩
  | ll dss =>
    obtain ⟨a, bs, rfl, rfl, nd, e1, e2, t⟩ := h
    unfold O.frz Rep
    exact ⟨a, _, rfl, h2 a (by simp) _ e2, t.reps e fun b hb => h2 b (List.mem_cons_of_mem _ hb)⟩
  | dcn ds =>
    obtain ⟨a, vs, rfl, rfl, e1, e2, e3⟩ := h
    unfold O.frz Rep
    exact ⟨a, vs, rfl, h2 a (by simp) _ e2, e3.mono e⟩
  | tr t => exact h.2.frz e t h2
end

/-! ### states -/
structure Ste (G : Cn) (F H : Hp) (σ : L2.St) (ρ : Rho) (α : Al) : Prop where
  ex : Lx F H
  len : σ.length = ρ.length
  slot : ∀ (i : Nat) o, ρ[i]? = some (some o) → ∃ v, σ[i]? = some (some v) ∧ RepO G F H (α i) v o
  off : ∀ (i : Nat), (∀ o, ρ[i]? ≠ some (some o)) → α i = []
  dis : ∀ i j a, i ≠ j → a ∈ α i → a ∉ α j
/-- a step: what is frozen grows, what is neither frozen nor owned stays -/
structure Stp (A : Addr → Prop) (F H F' H' : Hp) : Prop where
  exF : Ex F F'
  keep : ∀ b o, H b = some o → ¬ A b → H' b = some o ∨ (F b = some o ∧ Lk o = true ∧ ∃ od, H' b = some (.frz od o))
  newF : ∀ b o, F' b = some o → F b = some o ∨ H b = none ∨ A b
def New (A : Addr → Prop) (H : Hp) (A' : Addr → Prop) : Prop := ∀ a, A' a → A a ∨ H a = none

section
variable {G : Cn} {F F1 F2 H H1 H2 : Hp} {A A1 A2 : Addr → Prop} {σ : L2.St} {ρ : Rho} {α : Al}
theorem Stp.refl : Stp A F H F H := ⟨Ex.refl F, fun _ _ h _ => .inl h, fun _ _ h => .inl h⟩
theorem New.refl : New A H A := fun _ h => .inl h
theorem Stp.kept (s : Stp A F H F1 H1) {b : Addr} {o : HO} (h : H b = some o) (n : ¬ A b) (f : F b = none ∨ Lk o = false) : H1 b = some o := by
  rcases s.keep b o h n with z | ⟨z1, z2, _⟩
  · exact z
  · rcases f with f | f
    · rw [f] at z1; cases z1
    · rw [f] at z2; cases z2
theorem Stp.there (s : Stp A F H F1 H1) {b : Addr} {o : HO} (h : H b = some o) (n : ¬ A b) : ∃ u, H1 b = some u := by
  rcases s.keep b o h n with z | ⟨_, _, od, z⟩
  · exact ⟨_, z⟩
  · exact ⟨_, z⟩
theorem Stp.trans (a : Stp A F H F1 H1) (b : Stp A1 F1 H1 F2 H2) (n : New A H A1) : Stp A F H F2 H2 where
  exF := a.exF.trans b.exF
  keep := fun c o h nA => by
    have nA1 : ¬ A1 c := fun z => by
      rcases n c z with z | z
      · exact nA z
      · rw [h] at z; cases z
    rcases a.keep c o h nA with z | ⟨z1, z2, od, z3⟩
    · rcases b.keep c o z nA1 with y | ⟨y1, y2, y3⟩
      · exact .inl y
      · refine .inr ⟨?_, y2, y3⟩
        rcases a.newF c o y1 with x | x | x
        · exact x
        · rw [h] at x; cases x
        · exact absurd x nA
    · exact .inr ⟨z1, z2, od, b.kept z3 nA1 (.inr rfl)⟩
  newF := fun c o h => by
    by_cases hA : A c
    · exact .inr (.inr hA)
    · cases e : H c with
      | none => exact .inr (.inl rfl)
      | some u =>
        obtain ⟨u', k⟩ := a.there e hA
        rcases b.newF c o h with z | z | z
        · rcases a.newF c o z with y | y | y
          · exact .inl y
          · rw [e] at y; cases y
          · exact absurd y hA
        · rw [k] at z; cases z
        · rcases n c z with y | y
          · exact absurd y hA
          · rw [e] at y; cases y
theorem New.trans (a : Stp A F H F1 H1) (n : New A H A1) (m : New A1 H1 A2) : New A H A2 := fun c h => by
  rcases m c h with z | z
  · exact n c z
  · by_cases hA : A c
    · exact .inl hA
    · cases e : H c with
      | none => exact .inr rfl
      | some u =>
        obtain ⟨u', k⟩ := a.there e hA
        rw [k] at z
        cases z
theorem Ste.own (S : Ste G F H σ ρ α) {a : Addr} (h : Own α a) : F a = none ∧ ∃ o, H a = some o := by
  obtain ⟨i, hi⟩ := h
  by_cases q : ∃ o, ρ[i]? = some (some o)
  · obtain ⟨o, ho⟩ := q
    obtain ⟨v, _, r⟩ := S.slot i o ho
    exact r.mem a hi
  · rw [S.off i fun o e => q ⟨o, e⟩] at hi
    cases hi
theorem Ste.fresh (S : Ste G F H σ ρ α) {p : Addr} (h : H p = none) : F p = none := S.ex.back h
theorem Ste.notown (S : Ste G F H σ ρ α) {p : Addr} (h : H p = none) : ¬ Own α p := fun z => by
  obtain ⟨_, o, e⟩ := S.own z
  rw [h] at e
  cases e
/-- a new frozen object -/
theorem Ste.laid (S : Ste G F H σ ρ α) {p : Addr} {o : HO} (h : H p = none) : Ste G (upd F p o) (upd H p o) σ ρ α where
  ex := fun a u e => by
    by_cases q : a = p
    · subst q
      rw [upd_same] at e ⊢
      exact .inl e
    · rw [upd_ne q] at e ⊢
      exact S.ex a u e
  len := S.len
  slot := fun i x e => by
    obtain ⟨v, h1, r⟩ := S.slot i x e
    refine ⟨v, h1, r.move (Ex.new (S.fresh h)) (fun b hb => ?_) fun b hb u e => ?_⟩
    · rw [upd_ne fun z => S.notown h ⟨i, by rw [← z]; exact hb⟩]
      exact (r.mem b hb).1
    · rw [upd_ne fun z => S.notown h ⟨i, by rw [← z]; exact hb⟩]
      exact e
  off := S.off
  dis := S.dis
theorem Ste.laidStp (S : Ste G F H σ ρ α) {p : Addr} {o : HO} (h : H p = none) : Stp A F H (upd F p o) (upd H p o) where
  exF := Ex.new (S.fresh h)
  keep := fun b u e _ => .inl (by
    rw [upd_ne (ne_of_none e h)]
    exact e)
  newF := fun b u e => by
    by_cases q : b = p
    · subst q
      exact .inr (.inl h)
    · rw [upd_ne q] at e
      exact .inl e
/-- a new object that is not frozen -/
theorem Ste.put (S : Ste G F H σ ρ α) {p : Addr} {o : HO} (h : H p = none) : Ste G F (upd H p o) σ ρ α where
  ex := S.ex.post (Ex.new h)
  len := S.len
  slot := fun i x e => by
    obtain ⟨v, h1, r⟩ := S.slot i x e
    refine ⟨v, h1, r.move (Ex.refl F) (fun b hb => (r.mem b hb).1) fun b hb u e => ?_⟩
    rw [upd_ne fun z => S.notown h ⟨i, by rw [← z]; exact hb⟩]
    exact e
  off := S.off
  dis := S.dis
theorem Ste.putStp {p : Addr} {o : HO} (h : H p = none) : Stp A F H F (upd H p o) where
  exF := Ex.refl F
  keep := fun b u e _ => .inl (by
    rw [upd_ne (ne_of_none e h)]
    exact e)
  newF := fun b u e => .inl e
/-- what stands at β is frozen -/
def frzH (F H : Hp) (β : List Addr) : Hp := fun a => if a ∈ β then H a else F a
theorem frz_in {β : List Addr} {a : Addr} (h : a ∈ β) : frzH F H β a = H a := if_pos h
theorem frz_out {β : List Addr} {a : Addr} (h : a ∉ β) : frzH F H β a = F a := if_neg h
theorem Ste.frz (S : Ste G F H σ ρ α) {β : List Addr} (hb : ∀ a ∈ β, ¬ Own α a) (hf : ∀ a ∈ β, F a = none) : Ste G (frzH F H β) H σ ρ α where
  ex := fun a o e => by
    by_cases q : a ∈ β
    · rw [frz_in q] at e
      exact .inl e
    · rw [frz_out q] at e
      exact S.ex a o e
  len := S.len
  slot := fun i x e => by
    obtain ⟨v, h1, r⟩ := S.slot i x e
    refine ⟨v, h1, r.move (fun a o e => ?_) (fun b hb' => ?_) fun b hb' u e => e⟩
    · rw [frz_out fun z => by rw [hf a z] at e; cases e]
      exact e
    · rw [frz_out fun z => hb b z ⟨i, hb'⟩]
      exact (r.mem b hb').1
  off := S.off
  dis := S.dis
theorem frz_ex {β : List Addr} (hf : ∀ a ∈ β, F a = none) : Ex F (frzH F H β) := fun a o e => by
  rw [frz_out fun z => by rw [hf a z] at e; cases e]
  exact e
end

/-! ### what is wanted behind an expression -/
def PostG (G : Cn) (E : XK) (F H : Hp) (α : Al) {A : Type} (okP : A → Rho → Prop) : Option (Rs A × Rho) → Prop
  | none => False
  | some (.ok o, ρ') => okP o ρ'
  | some (.ex c none, _) => ∀ F' H', Stp (Own α) F H F' H' → E (.ref (G.cls c)) none H'
  | some (.ex c (some fs), _) => ∀ F' H' dd fvs, Stp (Own α) F H F' H' → H' dd = some (.xd fvs) → RepsF G F' fvs fs → E (.ref (G.cls c)) (some dd) H'
/-- an expression's value -/
def okV (G : Cn) (F H : Hp) (σ : L2.St) (α : Al) (Q : VK) (o : O) (ρ' : Rho) : Prop :=
  ∀ v F' H' α' β, Ste G F' H' σ ρ' α' → RepO G F' H' β v o → Stp (Own α) F H F' H' → (∀ a ∈ β, ¬ Own α' a) → New (Own α) H (fun a => Own α' a ∨ a ∈ β) → Q v H'
abbrev Post (G : Cn) (E : XK) (F H : Hp) (σ : L2.St) (α : Al) (r : Option (Res × Rho)) (Q : VK) : Prop := PostG G E F H α (okV G F H σ α Q) r
/-- an argument: data, or the object in a slot -/
inductive AI where
  | d (x : D) | io (i : Nat)
def RepA (G : Cn) (F : Hp) (σ : L2.St) : List V → List AI → Prop
  | vs, [] => vs = []
  | vs, .d x :: r => ∃ v ws, vs = v :: ws ∧ Rep G F v x ∧ RepA G F σ ws r
  | vs, .io i :: r => ∃ v ws, vs = v :: ws ∧ σ[i]? = some (some v) ∧ RepA G F σ ws r
def okA (G : Cn) (F H : Hp) (σ : L2.St) (α : Al) (Q : List V → Hp → Prop) (xs : List AI) (ρ' : Rho) : Prop :=
  ∀ vs F' H' α', Ste G F' H' σ ρ' α' → RepA G F' σ vs xs → Stp (Own α) F H F' H' → New (Own α) H (Own α') → Q vs H'
abbrev MA := Rho → Option (Rs (List AI) × Rho)
abbrev PostA (G : Cn) (E : XK) (F H : Hp) (σ : L2.St) (α : Al) (r : Option (Rs (List AI) × Rho)) (Q : List V → Hp → Prop) : Prop := PostG G E F H α (okA G F H σ α Q) r
def bnd {A B : Type} (r : Option (Rs A × Rho)) (k : A → Rho → Option (Rs B × Rho)) : Option (Rs B × Rho) :=
  match r with
  | none => none
  | some (.ok o, ρ) => k o ρ
  | some (.ex c f, ρ) => some (.ex c f, ρ)
section
variable {G : Cn} {E : XK} {F F1 F2 H H1 H2 : Hp} {σ : L2.St} {ρ ρ1 : Rho} {α α1 : Al} {Q R : VK} {A B : Type} {r : Option (Rs A × Rho)} {k : A → Rho → Option (Rs B × Rho)} {okP okP' : A → Rho → Prop} {okQ : B → Rho → Prop}
theorem PostG.bind (h : PostG G E F H α okQ (bnd r k)) (hk : ∀ o ρ1, PostG G E F H α okQ (k o ρ1) → okP o ρ1) : PostG G E F H α okP r := by
  match r, h with
  | none, h => exact h
  | some (.ok o, ρ'), h => exact hk o ρ' h
  | some (.ex c none, _), h => exact h
  | some (.ex c (some fs), _), h => exact h
theorem PostG.shift (s : Stp (Own α) F H F1 H1) (n : New (Own α) H (Own α1)) (h : PostG G E F H α okP r) (hk : ∀ o ρ1, okP o ρ1 → okP' o ρ1) : PostG G E F1 H1 α1 okP' r := by
  match r, h with
  | none, h => exact h
  | some (.ok o, ρ'), h => exact hk o ρ' h
  | some (.ex c none, _), h => exact fun F' H' T => h F' H' (s.trans T n)
  | some (.ex c (some fs), _), h => exact fun F' H' dd fvs T d3 d4 => h F' H' dd fvs (s.trans T n) d3 d4
theorem Post.shift {r : Option (Res × Rho)} (s : Stp (Own α) F H F1 H1) (n : New (Own α) H (Own α1)) (h : Post G E F H σ α r Q) : Post G E F1 H1 σ α1 r Q :=
  PostG.shift s n h fun o ρ1 hq v F' H' α' β S R T N1 N2 => hq v F' H' α' β S R (s.trans T n) N1 (New.trans s n N2)
theorem PostA.shift {r : Option (Rs (List AI) × Rho)} {Q : List V → Hp → Prop} (s : Stp (Own α) F H F1 H1) (n : New (Own α) H (Own α1)) (h : PostA G E F H σ α r Q) : PostA G E F1 H1 σ α1 r Q :=
  PostG.shift s n h fun o ρ1 hq v F' H' α' S R T N2 => hq v F' H' α' S R (s.trans T n) (New.trans s n N2)
theorem Ste.freeze {o : O} {v : V} {β : List Addr} {ρ1 : Rho} (S : Ste G F1 H1 σ ρ1 α1) (r : RepO G F1 H1 β v o) (T : Stp (Own α) F H F1 H1) (N1 : ∀ a ∈ β, ¬ Own α1 a) (N2 : New (Own α) H (fun a => Own α1 a ∨ a ∈ β)) :
    ∃ F2, Ste G F2 H1 σ ρ1 α1 ∧ Rep G F2 v o.frz ∧ Stp (Own α) F H F2 H1 ∧ New (Own α) H (Own α1) := by
  have hf : ∀ a ∈ β, F1 a = none := fun a ha => (r.mem a ha).1
  have T2 : Stp (fun a => Own α1 a ∨ a ∈ β) F1 H1 (frzH F1 H1 β) H1 := ⟨frz_ex hf, fun _ _ e _ => .inl e, fun b o e => by
    by_cases q : b ∈ β
    · exact .inr (.inr (.inr q))
    · rw [frz_out q] at e
      exact .inl e⟩
  exact ⟨frzH F1 H1 β, S.frz N1 hf, r.frz (frz_ex hf) (fun b hb u e => by rw [frz_in hb]; exact e), T.trans T2 N2, fun a z => N2 a (.inl z)⟩
/-- from an expression on, the value frozen; w: how what is wanted moves to the new state -/
theorem Post.to {r : Option (Res × Rho)} {k : O → Rho → Option (Rs B × Rho)} (h : PostG G E F H α okQ (bnd r k))
    (hk : ∀ o ρ1 v F1 H1 α1, Ste G F1 H1 σ ρ1 α1 → Rep G F1 v o.frz → Stp (Own α) F H F1 H1 → New (Own α) H (Own α1) → PostG G E F H α okQ (k o ρ1) → R v H1) : Post G E F H σ α r R :=
  PostG.bind h fun o ρ1 hp v F1 H1 α1 β S r T N1 N2 => by
    obtain ⟨F2, S2, r2, T2, N3⟩ := S.freeze r T N1 N2
    exact hk o ρ1 v F2 H1 α1 S2 r2 T2 N3 hp
/-- the end: data, nothing changed -/
theorem Post.val {d : D} {v : V} (h : Post G E F H σ α (some (.ok (.val d), ρ)) Q) (S : Ste G F H σ ρ α) (r : Rep G F v d) : Q v H :=
  h v F H α [] S ⟨rfl, r⟩ .refl (fun _ z => nomatch z) fun a z => by
    rcases z with z | z
    · exact .inl z
    · cases z
/-- the end: a new frozen object -/
theorem Post.newV {d : D} {p : Addr} {o : HO} (h : Post G E F H σ α (some (.ok (.val d), ρ)) Q) (S : Ste G F H σ ρ α) (hp : H p = none) (r : Rep G (upd F p o) (.ref p) d) : Q (.ref p) (upd H p o) :=
  h (.ref p) (upd F p o) (upd H p o) α [] (S.laid hp) ⟨rfl, r⟩ (S.laidStp hp) (fun _ z => nomatch z) fun a z => by
    rcases z with z | z
    · exact .inl z
    · cases z
/-- a new list of one's own -/
theorem Post.newL {ds : List D} {vs : List V} {p : Addr} (h : Post G E F H σ α (some (.ok (.lst ds), ρ)) Q) (S : Ste G F H σ ρ α) (hp : H p = none) (r : Reps G F vs ds) : Q (.ref p) (upd H p (.lst vs)) :=
  h (.ref p) F (upd H p (.lst vs)) α [p] (S.put hp) ⟨p, vs, rfl, rfl, S.fresh hp, upd_same, r⟩ (Ste.putStp hp) (fun a z => by
    have : a = p := by simpa using z
    subst this
    exact S.notown hp) fun a z => by
    rcases z with z | z
    · exact .inl z
    · have : a = p := by simpa using z
      subst this
      exact .inr hp
theorem Post.newD {ds : List (Key × D)} {vs : List (Key × V)} {p : Addr} (h : Post G E F H σ α (some (.ok (.dic ds), ρ)) Q) (S : Ste G F H σ ρ α) (hp : H p = none) (r : RepsK G F vs ds) : Q (.ref p) (upd H p (.dK vs)) :=
  h (.ref p) F (upd H p (.dK vs)) α [p] (S.put hp) ⟨p, vs, rfl, rfl, S.fresh hp, upd_same, r⟩ (Ste.putStp hp) (fun a z => by
    have : a = p := by simpa using z
    subst this
    exact S.notown hp) fun a z => by
    rcases z with z | z
    · exact .inl z
    · have : a = p := by simpa using z
      subst this
      exact .inr hp
theorem RepA.mono (e : Ex F F1) : ∀ {vs : List V} {xs : List AI}, RepA G F σ vs xs → RepA G F1 σ vs xs
  | _, [], h => h
  | _, .d x :: r, h => by
    obtain ⟨v, ws, e1, e2, e3⟩ := h
    exact ⟨v, ws, e1, e2.mono e, RepA.mono e e3⟩
  | _, .io i :: r, h => by
    obtain ⟨v, ws, e1, e2, e3⟩ := h
    exact ⟨v, ws, e1, e2, RepA.mono e e3⟩
end
end VL

namespace VL
open PySem PySem.Spec
open PyProof.Rows L2
open Evl (Ex sz_of)

/-! ### operands: data, or what a slot holds -/
def RepX (G : Cn) (F H : Hp) (v : V) (d : D) : Prop :=
  Rep G F v d ∨ (∃ ds a vs, d = .lst ds ∧ v = .ref a ∧ H a = some (.lst vs) ∧ Reps G F vs ds) ∨ (∃ ds a vs, d = .dic ds ∧ v = .ref a ∧ H a = some (.dK vs) ∧ RepsK G F vs ds) ∨
    (∃ c fs a dx fvs, d = .ins c fs ∧ v = .ref a ∧ H a = some (.ins (G.cls c) dx fvs) ∧ RepsF G F fvs fs) ∨ ∃ ks a xs, d = .dcn ks ∧ v = .ref a ∧ H a = some (NDo G.w a xs) ∧ RepsN G F xs ks
def RepXs (G : Cn) (F H : Hp) : List V → List D → Prop
  | vs, [] => vs = []
  | vs, d :: ds => ∃ v r, vs = v :: r ∧ RepX G F H v d ∧ RepXs G F H r ds
/-- what may be looked at as it stands -/
def O.pk : O → Option D
  | .ll _ => none
  | .tr _ => none
  | o => some o.frz
section
variable {G : Cn} {F H : Hp} {v : V}
theorem RepO.x {β : List Addr} {o : O} {d : D} (h : RepO G F H β v o) (e : o.pk = some d) : RepX G F H v d := by
  cases o with
  | val d' =>
    cases e
    exact .inl h.2
  | lst ds =>
    cases e
    obtain ⟨a, vs, rfl, _, _, e2, e3⟩ := h
    exact .inr (.inl ⟨ds, a, vs, rfl, rfl, e2, e3⟩)
  | dic ds =>
    cases e
    obtain ⟨a, vs, rfl, _, _, e2, e3⟩ := h
    exact .inr (.inr (.inl ⟨ds, a, vs, rfl, rfl, e2, e3⟩))
  | ins c fs =>
    cases e
    obtain ⟨a, dx, vs, rfl, _, _, _, _, e3, _, e5⟩ := h
    exact .inr (.inr (.inr (.inl ⟨c, fs, a, dx, vs, rfl, rfl, e3, e5⟩)))
  | ll dss => cases e
  | dcn ks =>
    cases e
    obtain ⟨a, xs, rfl, _, _, e2, e3⟩ := h
    exact .inr (.inr (.inr (.inr ⟨ks, a, xs, rfl, rfl, e2, e3⟩)))
  | tr t => cases e
theorem RepX.l {ds : List D} (h : RepX G F H v (.lst ds)) (e : Lx F H) : ∃ a vs, v = .ref a ∧ H a = some (.lst vs) ∧ Reps G F vs ds := by
  rcases h with h | ⟨ds', a, vs, q, e1, e2, e3⟩ | ⟨ds', a, vs, q, _⟩ | ⟨c, fs, a, dx, fvs, q, _⟩ | ⟨_, _, _, q, _⟩
  · unfold Rep at h
    obtain ⟨a, vs, e1, e2, e3⟩ := h
    exact ⟨a, vs, e1, e.x e2, e3⟩
  · cases q
    exact ⟨a, vs, e1, e2, e3⟩
  all_goals cases q
theorem RepX.t {ds : List D} (h : RepX G F H v (.tup ds)) (e : Lx F H) : ∃ a vs, v = .ref a ∧ F a = some (.tup vs) ∧ H a = some (.tup vs) ∧ Reps G F vs ds := by
  rcases h with h | ⟨ds', a, vs, q, e1, e2, e3⟩ | ⟨ds', a, vs, q, _⟩ | ⟨c, fs, a, dx, fvs, q, _⟩ | ⟨_, _, _, q, _⟩
  · unfold Rep at h
    obtain ⟨a, vs, e1, e2, e3⟩ := h
    exact ⟨a, vs, e1, e2, e.x e2, e3⟩
  all_goals cases q
theorem RepX.k {ds : List (Key × D)} (h : RepX G F H v (.dic ds)) (e : Lx F H) : ∃ a vs, v = .ref a ∧ Rd H a (.dK vs) ∧ RepsK G F vs ds := by
  rcases h with h | ⟨ds', a, vs, q, e1, e2, e3⟩ | ⟨ds', a, vs, q, e1, e2, e3⟩ | ⟨c, fs, a, dx, fvs, q, _⟩ | ⟨_, _, _, q, _⟩
  · unfold Rep at h
    obtain ⟨a, vs, e1, e2, e3⟩ := h
    exact ⟨a, vs, e1, e.rd e2, e3⟩
  · cases q
  · cases q
    exact ⟨a, vs, e1, .inl e2, e3⟩
  all_goals cases q
theorem RepX.i {c : Nat} {fs : List (Str × D)} (h : RepX G F H v (.ins c fs)) (e : Lx F H) : ∃ a dx fvs, v = .ref a ∧ H a = some (.ins (G.cls c) dx fvs) ∧ RepsF G F fvs fs := by
  rcases h with h | ⟨ds', a, vs, q, e1, e2, e3⟩ | ⟨ds', a, vs, q, e1, e2, e3⟩ | ⟨c', fs', a, dx, fvs, q, e1, e2, e3⟩ | ⟨_, _, _, q, _⟩
  · unfold Rep at h
    obtain ⟨a, dx, vs, e1, e2, e3⟩ := h
    exact ⟨a, dx, vs, e1, e.x e2, e3⟩
  · cases q
  · cases q
  · cases q
    exact ⟨a, dx, fvs, e1, e2, e3⟩
  · cases q
theorem RepX.n {ds : List (NestedKey × D)} (h : RepX G F H v (.dcn ds)) (e : Lx F H) : ∃ a xs, v = .ref a ∧ Rd H a (NDo G.w a xs) ∧ RepsN G F xs ds ∧ KsOk H xs := by
  rcases h with h | ⟨ds', a, vs, q, e1, e2, e3⟩ | ⟨ds', a, vs, q, e1, e2, e3⟩ | ⟨c', fs', a, dx, fvs, q, e1, e2, e3⟩ | ⟨ks, a, xs, q, e1, e2, e3⟩
  · unfold Rep at h
    obtain ⟨a, xs, e1, e2, e3⟩ := h
    exact ⟨a, xs, e1, e.rd e2, e3, e3.ks.lx e⟩
  · cases q
  · cases q
  · cases q
  · cases q
    exact ⟨a, xs, e1, .inl e2, e3, e3.ks.lx e⟩
theorem RepX.non (h : RepX G F H v .non) : v = .non := by
  rcases h with h | ⟨_, _, _, q, _⟩ | ⟨_, _, _, q, _⟩ | ⟨_, _, _, _, _, q, _⟩ | ⟨_, _, _, q, _⟩
  · unfold Rep at h; exact h
  all_goals cases q
theorem RepX.bl {b : Bool} (h : RepX G F H v (.bl b)) : v = .bl b := by
  rcases h with h | ⟨_, _, _, q, _⟩ | ⟨_, _, _, q, _⟩ | ⟨_, _, _, _, _, q, _⟩ | ⟨_, _, _, q, _⟩
  · unfold Rep at h; exact h
  all_goals cases q
theorem RepX.int {i : Int} (h : RepX G F H v (.int i)) : v = .int i := by
  rcases h with h | ⟨_, _, _, q, _⟩ | ⟨_, _, _, q, _⟩ | ⟨_, _, _, _, _, q, _⟩ | ⟨_, _, _, q, _⟩
  · unfold Rep at h; exact h
  all_goals cases q
theorem RepX.str {x : Str} (h : RepX G F H v (.str x)) : v = .str x := by
  rcases h with h | ⟨_, _, _, q, _⟩ | ⟨_, _, _, q, _⟩ | ⟨_, _, _, _, _, q, _⟩ | ⟨_, _, _, q, _⟩
  · unfold Rep at h; exact h
  all_goals cases q
theorem RepX.cls {c : Nat} (h : RepX G F H v (.cls c)) : v = .ref (G.cls c) := by
  rcases h with h | ⟨_, _, _, q, _⟩ | ⟨_, _, _, q, _⟩ | ⟨_, _, _, _, _, q, _⟩ | ⟨_, _, _, q, _⟩
  · unfold Rep at h; exact h
  all_goals cases q
theorem Rep.ofBl {b : Bool} : Rep G F (.bl b) (.bl b) := by unfold Rep; rfl
theorem Rep.ofInt {b : Int} : Rep G F (.int b) (.int b) := by unfold Rep; rfl
theorem Rep.ofStr {b : Str} : Rep G F (.str b) (.str b) := by unfold Rep; rfl
theorem Rep.ofNon : Rep G F .non .non := by unfold Rep; rfl
theorem Rep.ofTup {a : Addr} {vs : List V} {ds : List D} (h : F a = some (.tup vs)) (r : Reps G F vs ds) : Rep G F (.ref a) (.tup ds) := by unfold Rep; exact ⟨a, vs, rfl, h, r⟩
theorem Rep.ofLst {a : Addr} {vs : List V} {ds : List D} (h : F a = some (.lst vs)) (r : Reps G F vs ds) : Rep G F (.ref a) (.lst ds) := by unfold Rep; exact ⟨a, vs, rfl, h, r⟩
theorem Reps.x {vs : List V} : ∀ {vs : List V} {ds : List D}, Reps G F vs ds → RepXs G F H vs ds
  | _, [], h => h.of_nil
  | _, d :: ds, h => by
    obtain ⟨v, r, e1, e2, e3⟩ := h.of_cons
    exact ⟨v, r, e1, .inl e2, Reps.x (vs := r) e3⟩
end

/-! ### the semantics of readings -/
structure Sem (G : Cn) (E : XK) (t : TE) (m : M) : Prop where
  run : ∀ {F H σ ρ α Q}, Ste G F H σ ρ α → Post G E F H σ α (m ρ) Q → t σ H Q
structure SemT (G : Cn) (E : XK) (t : TT) (m : M) : Prop where
  run : ∀ {F H σ ρ α} {Q : Bool → Hp → Prop}, Ste G F H σ ρ α → Post G E F H σ α (m ρ) (fun v H' => ∃ b, v = .bl b ∧ Q b H') → t σ H Q
structure SemA (G : Cn) (E : XK) (t : TA) (m : MA) : Prop where
  run : ∀ {F H σ ρ α Q}, Ste G F H σ ρ α → PostA G E F H σ α (m ρ) Q → t σ H Q
/-- an operator, a call, by values -/
def OSem (G : Cn) (r : R2) (f : D → D → Option O) : Prop :=
  ∀ {E : XK} {F H σ ρ α Q x y dx dy}, Ste G F H σ ρ α → RepX G F H x dx → RepX G F H y dy → Post G E F H σ α ((f dx dy).map fun o => (.ok o, ρ)) Q → r x y H Q
def CSem (G : Cn) (r : List V → Hp → VK → Prop) (f : List D → Option O) : Prop :=
  ∀ {E : XK} {F H σ ρ α Q vs ds}, Ste G F H σ ρ α → RepXs G F H vs ds → Post G E F H σ α ((f ds).map fun o => (.ok o, ρ)) Q → r vs H Q

def mVar (i : Nat) : M := fun ρ => match ρ[i]? with
  | some (some (.val d)) => some (.ok (.val d), ρ)
  | _ => none
def mC (d : D) : M := fun ρ => some (.ok (.val d), ρ)
def mOp2 (f : D → D → Option O) (a b : M) : M := fun ρ => bnd (a ρ) fun x ρ1 => bnd (b ρ1) fun y ρ2 => (f x.frz y.frz).map fun o => (.ok o, ρ2)
def look (ρ : Rho) (i : Nat) : Option D := match ρ[i]? with
  | some (some o) => o.pk
  | _ => none
/-- the left operand stands in a slot: it is looked at as it stands -/
def mOpL (f : D → D → Option O) (i : Nat) (b : M) : M := fun ρ => (look ρ i).bind fun _ => bnd (b ρ) fun y ρ1 => (look ρ1 i).bind fun x => (f x y.frz).map fun o => (.ok o, ρ1)
def mOpR (f : D → D → Option O) (a : M) (i : Nat) : M := fun ρ => bnd (a ρ) fun x ρ1 => (look ρ1 i).bind fun y => (f x.frz y).map fun o => (.ok o, ρ1)
/-- and, or, not, if -/
def mAnd (a b : M) : M := fun ρ => bnd (a ρ) fun x ρ1 => match x.frz with
  | .bl true => b ρ1
  | .bl false => some (.ok (.val (.bl false)), ρ1)
  | _ => none
def mOr (a b : M) : M := fun ρ => bnd (a ρ) fun x ρ1 => match x.frz with
  | .bl false => b ρ1
  | .bl true => some (.ok (.val (.bl true)), ρ1)
  | _ => none
def mNot (a : M) : M := fun ρ => bnd (a ρ) fun x ρ1 => match x.frz with
  | .bl b => some (.ok (.val (.bl (!b))), ρ1)
  | _ => none
def mIf (c a b : M) : M := fun ρ => bnd (c ρ) fun x ρ1 => match x.frz with
  | .bl true => a ρ1
  | .bl false => b ρ1
  | _ => none
def aNil : MA := fun ρ => some (.ok [], ρ)
def aCons (a : M) (r : MA) : MA := fun ρ => bnd (a ρ) fun x ρ1 => bnd (r ρ1) fun xs ρ2 => some (.ok (.d x.frz :: xs), ρ2)
def aIo (i : Nat) (r : MA) : MA := fun ρ => bnd (r ρ) fun xs ρ2 => some (.ok (.io i :: xs), ρ2)
/-- arguments, all of them data, or slots that are looked at -/
def dsOf (ρ : Rho) : List AI → Option (List D)
  | [] => some []
  | .d x :: r => (dsOf ρ r).map (x :: ·)
  | .io i :: r => (look ρ i).bind fun x => (dsOf ρ r).map (x :: ·)
def mCB (f : List D → Option O) (ms : MA) : M := fun ρ => bnd (ms ρ) fun xs ρ1 => (dsOf ρ1 xs).bind fun ds => (f ds).map fun o => (.ok o, ρ1)
def mTup (ms : MA) : M := fun ρ => bnd (ms ρ) fun xs ρ1 => (dsOf [] xs).bind fun ds => if ds.length ≤ 100000 then some (.ok (.val (.tup ds)), ρ1) else none
def mLst (ms : MA) : M := fun ρ => bnd (ms ρ) fun xs ρ1 => (dsOf [] xs).bind fun ds => if ds.length ≤ 100000 then some (.ok (.lst ds), ρ1) else none

section
variable {G : Cn} {E : XK} {ta tb tc : TE} {t u : TT} {ma mb mc : M} {r : R2} {f : D → D → Option O} {i : Nat}
theorem sem_var : Sem G E (tVar i) (mVar i) := ⟨fun {F H σ ρ α Q} S h => by
  unfold mVar at h
  split at h
  · rename_i d e
    obtain ⟨v, h1, r⟩ := S.slot i _ e
    exact ⟨v, h1, Post.val h S r.2⟩
  · exact h.elim⟩
theorem sem_c {v : V} {d : D} (hr : ∀ F, Rep G F v d) : Sem G E (tC v) (mC d) := ⟨fun {F H σ ρ α Q} S h => Post.val h S (hr F)⟩
theorem sem_int {n : Int} : Sem G E (tC (.int n)) (mC (.int n)) := sem_c fun _ => Rep.ofInt
theorem sem_bl {n : Bool} : Sem G E (tC (.bl n)) (mC (.bl n)) := sem_c fun _ => Rep.ofBl
theorem sem_str {n : Str} : Sem G E (tC (.str n)) (mC (.str n)) := sem_c fun _ => Rep.ofStr
theorem sem_non : Sem G E (tC .non) (mC .non) := sem_c fun _ => Rep.ofNon
theorem sem_op (hr : OSem G r f) (ha : Sem G E ta ma) (hb : Sem G E tb mb) : Sem G E (tOp r ta tb) (mOp2 f ma mb) := ⟨fun S h =>
  ha.run S (Post.to h fun o ρ1 v F1 H1 α1 S1 r1 T1 N1 h1 => hb.run S1 (Post.to (Post.shift T1 N1 h1) fun o2 ρ2 v2 F2 H2 α2 S2 r2 T2 N2 h2 =>
    hr S2 (.inl (r1.mono T2.exF)) (.inl r2) (Post.shift T2 N2 h2)))⟩
theorem look_x {F H : Hp} {σ : L2.St} {ρ : Rho} {α : Al} {d : D} (S : Ste G F H σ ρ α) (e : look ρ i = some d) : ∃ v, σ[i]? = some (some v) ∧ RepX G F H v d := by
  unfold look at e
  split at e
  · rename_i o e1
    obtain ⟨v, h1, r⟩ := S.slot i o e1
    exact ⟨v, h1, r.x e⟩
  · cases e
theorem sem_opL (hr : OSem G r f) (hb : Sem G E tb mb) : Sem G E (tOp r (tVar i) tb) (mOpL f i mb) := ⟨fun {F H σ ρ α Q} S h => by
  unfold mOpL at h
  cases e : look ρ i with
  | none => rw [e] at h; exact h.elim
  | some d0 =>
    rw [e] at h
    obtain ⟨v, hv, _⟩ := look_x S e
    refine ⟨v, hv, hb.run S (Post.to h fun o ρ1 v2 F1 H1 α1 S1 r1 T1 N1 h1 => ?_)⟩
    cases e1 : look ρ1 i with
    | none => rw [e1] at h1; exact h1.elim
    | some d1 =>
      rw [e1] at h1
      obtain ⟨v', hv', rx⟩ := look_x S1 e1
      rw [hv] at hv'
      cases hv'
      exact hr S1 rx (.inl r1) (Post.shift T1 N1 h1)⟩
theorem sem_opR (hr : OSem G r f) (ha : Sem G E ta ma) : Sem G E (tOp r ta (tVar i)) (mOpR f ma i) := ⟨fun {F H σ ρ α Q} S h => by
  refine ha.run S (Post.to h fun o ρ1 v2 F1 H1 α1 S1 r1 T1 N1 h1 => ?_)
  cases e1 : look ρ1 i with
  | none => rw [e1] at h1; exact h1.elim
  | some d1 =>
    rw [e1] at h1
    obtain ⟨v', hv', rx⟩ := look_x S1 e1
    exact ⟨v', hv', hr S1 (.inl r1) rx (Post.shift T1 N1 h1)⟩⟩
theorem frz_bl {F H : Hp} {v : V} {o : O} {b : Bool} (r : Rep G F v o.frz) (e : o.frz = .bl b) : v = .bl b := by
  rw [e] at r
  unfold Rep at r
  exact r
theorem sem_andV (ha : Sem G E ta ma) (hb : Sem G E tb mb) : Sem G E (tAndV ta tb) (mAnd ma mb) := ⟨fun {F H σ ρ α Q} S h => by
  refine ha.run S (Post.to h fun o ρ1 v F1 H1 α1 S1 r1 T1 N1 h1 => ?_)
  try dsimp only at h1
  split at h1
  · rename_i e
    refine ⟨true, frz_bl (H := H) r1 e, ?_⟩
    rw [if_pos rfl]
    exact hb.run S1 (Post.shift T1 N1 h1)
  · rename_i e
    refine ⟨false, frz_bl (H := H) r1 e, ?_⟩
    rw [if_neg Bool.false_ne_true]
    exact Post.val (Post.shift T1 N1 h1) S1 Rep.ofBl
  · exact h1.elim⟩
theorem sem_orV (ha : Sem G E ta ma) (hb : Sem G E tb mb) : Sem G E (tOrV ta tb) (mOr ma mb) := ⟨fun {F H σ ρ α Q} S h => by
  refine ha.run S (Post.to h fun o ρ1 v F1 H1 α1 S1 r1 T1 N1 h1 => ?_)
  try dsimp only at h1
  split at h1
  · rename_i e
    refine ⟨false, frz_bl (H := H) r1 e, ?_⟩
    rw [if_neg Bool.false_ne_true]
    exact hb.run S1 (Post.shift T1 N1 h1)
  · rename_i e
    refine ⟨true, frz_bl (H := H) r1 e, ?_⟩
    rw [if_pos rfl]
    exact Post.val (Post.shift T1 N1 h1) S1 Rep.ofBl
  · exact h1.elim⟩
theorem sem_notV (ha : Sem G E ta ma) : Sem G E (tNotV ta) (mNot ma) := ⟨fun {F H σ ρ α Q} S h => by
  refine ha.run S (Post.to h fun o ρ1 v F1 H1 α1 S1 r1 T1 N1 h1 => ?_)
  try dsimp only at h1
  split at h1
  · rename_i b e
    exact ⟨b, frz_bl (H := H) r1 e, Post.val (Post.shift T1 N1 h1) S1 Rep.ofBl⟩
  · exact h1.elim⟩
/-- tests -/
theorem semT_val (ha : Sem G E ta ma) : SemT G E (tB ta) ma := ⟨fun S h => ha.run S h⟩
theorem semT_test (ha : Sem G E ta ma) : SemT G E (tTest ta) ma := ⟨fun S h => ha.run S h⟩
theorem okV_bl {F H : Hp} {σ : L2.St} {ρ : Rho} {α : Al} {Q : Bool → Hp → Prop} {b : Bool} (S : Ste G F H σ ρ α) (h : Post G E F H σ α (some (.ok (.val (.bl b)), ρ)) fun v H' => ∃ b, v = .bl b ∧ Q b H') : Q b H := by
  obtain ⟨b', e, q⟩ := Post.val h S Rep.ofBl
  cases e
  exact q
theorem SemT.to {F H : Hp} {σ : L2.St} {ρ : Rho} {α : Al} {B : Type} {k : O → Rho → Option (Rs B × Rho)} {okQ : B → Rho → Prop} {R : Bool → Hp → Prop} (ht : SemT G E t ma) (S : Ste G F H σ ρ α) (h : PostG G E F H α okQ (bnd (ma ρ) k))
    (hk : ∀ o ρ1 b F1 H1 α1, Ste G F1 H1 σ ρ1 α1 → (∀ c, o.frz = .bl c → b = c) → Stp (Own α) F H F1 H1 → New (Own α) H (Own α1) → (∃ c, o.frz = .bl c) → PostG G E F H α okQ (k o ρ1) → R b H1)
    (hk0 : ∀ o ρ1, (∀ c, o.frz ≠ .bl c) → PostG G E F H α okQ (k o ρ1) → False) : t σ H R :=
  ht.run S (Post.to h fun o ρ1 v F1 H1 α1 S1 r1 T1 N1 h1 => by
    by_cases q : ∃ c, o.frz = .bl c
    · obtain ⟨c, e⟩ := q
      exact ⟨c, frz_bl (H := H) r1 e, hk o ρ1 c F1 H1 α1 S1 (fun c' e' => by rw [e] at e'; cases e'; rfl) T1 N1 ⟨c, e⟩ h1⟩
    · exact (hk0 o ρ1 (fun c e => q ⟨c, e⟩) h1).elim)
theorem bl_or {B : Type} {A : Type} (o : O) {x y z : A} : (∃ c, o.frz = .bl c) ∨ (∀ c, o.frz ≠ .bl c) := by
  by_cases q : ∃ c, o.frz = .bl c
  · exact .inl q
  · exact .inr fun c e => q ⟨c, e⟩
theorem semT_and (ha : SemT G E t ma) (hb : SemT G E u mb) : SemT G E (tAnd t u) (mAnd ma mb) := ⟨fun {F H σ ρ α Q} S h => by
  refine ha.to S h (fun o ρ1 b F1 H1 α1 S1 hb1 T1 N1 hc h1 => ?_) fun o ρ1 hn h1 => ?_
  · obtain ⟨c, e⟩ := hc
    obtain rfl := hb1 c e
    try dsimp only at h1
    rw [e] at h1
    cases b with
    | true => exact hb.run S1 (Post.shift T1 N1 h1)
    | false => exact okV_bl S1 (Post.shift T1 N1 h1)
  · try dsimp only at h1
    split at h1
    · rename_i e
      exact hn _ e
    · rename_i e
      exact hn _ e
    · exact h1⟩
theorem semT_or (ha : SemT G E t ma) (hb : SemT G E u mb) : SemT G E (tOr t u) (mOr ma mb) := ⟨fun {F H σ ρ α Q} S h => by
  refine ha.to S h (fun o ρ1 b F1 H1 α1 S1 hb1 T1 N1 hc h1 => ?_) fun o ρ1 hn h1 => ?_
  · obtain ⟨c, e⟩ := hc
    obtain rfl := hb1 c e
    try dsimp only at h1
    rw [e] at h1
    cases b with
    | false => exact hb.run S1 (Post.shift T1 N1 h1)
    | true => exact okV_bl S1 (Post.shift T1 N1 h1)
  · try dsimp only at h1
    split at h1
    · rename_i e
      exact hn _ e
    · rename_i e
      exact hn _ e
    · exact h1⟩
theorem semT_not (ha : SemT G E t ma) : SemT G E (tNot t) (mNot ma) := ⟨fun {F H σ ρ α Q} S h => by
  refine ha.to S h (fun o ρ1 b F1 H1 α1 S1 hb1 T1 N1 hc h1 => ?_) fun o ρ1 hn h1 => ?_
  · obtain ⟨c, e⟩ := hc
    obtain rfl := hb1 c e
    try dsimp only at h1
    rw [e] at h1
    exact okV_bl S1 (Post.shift T1 N1 h1)
  · try dsimp only at h1
    split at h1
    · rename_i e
      exact hn _ e
    · exact h1⟩
theorem sem_if (hc : SemT G E t mc) (ha : Sem G E ta ma) (hb : Sem G E tb mb) : Sem G E (tIf t ta tb) (mIf mc ma mb) := ⟨fun {F H σ ρ α Q} S h => by
  refine hc.to S h (fun o ρ1 b F1 H1 α1 S1 hb1 T1 N1 hc h1 => ?_) fun o ρ1 hn h1 => ?_
  · obtain ⟨c, e⟩ := hc
    obtain rfl := hb1 c e
    try dsimp only at h1
    rw [e] at h1
    cases b with
    | true => exact ha.run S1 (Post.shift T1 N1 h1)
    | false => exact hb.run S1 (Post.shift T1 N1 h1)
  · try dsimp only at h1
    split at h1
    · rename_i e
      exact hn _ e
    · rename_i e
      exact hn _ e
    · exact h1⟩
/-! ### argument lists -/
variable {tr : TA} {mr : MA}
theorem PostA.done {F H : Hp} {σ : L2.St} {ρ : Rho} {α : Al} {Q : List V → Hp → Prop} {xs : List AI} {vs : List V} (h : PostA G E F H σ α (some (.ok xs, ρ)) Q) (S : Ste G F H σ ρ α) (r : RepA G F σ vs xs) : Q vs H :=
  h vs F H α S r .refl .refl
theorem semA_nil : SemA G E tNil aNil := ⟨fun S h => PostA.done h S rfl⟩
theorem PostA.to {F H : Hp} {σ : L2.St} {α : Al} {B : Type} {k : List AI → Rho → Option (Rs B × Rho)} {okQ : B → Rho → Prop} {R : List V → Hp → Prop} {r : Option (Rs (List AI) × Rho)} (h : PostG G E F H α okQ (bnd r k))
    (hk : ∀ xs ρ1 vs F1 H1 α1, Ste G F1 H1 σ ρ1 α1 → RepA G F1 σ vs xs → Stp (Own α) F H F1 H1 → New (Own α) H (Own α1) → PostG G E F H α okQ (k xs ρ1) → R vs H1) : PostA G E F H σ α r R :=
  PostG.bind h fun xs ρ1 hp vs F1 H1 α1 S r T N => hk xs ρ1 vs F1 H1 α1 S r T N hp
theorem semA_cons (ha : Sem G E ta ma) (hr : SemA G E tr mr) : SemA G E (tCons ta tr) (aCons ma mr) := ⟨fun {F H σ ρ α Q} S h =>
  ha.run S (Post.to h fun o ρ1 v F1 H1 α1 S1 r1 T1 N1 h1 => hr.run S1 (PostA.to (PostA.shift T1 N1 h1) fun xs ρ2 vs F2 H2 α2 S2 r2 T2 N2 h2 =>
    PostA.done (PostA.shift T2 N2 h2) S2 ⟨v, vs, rfl, r1.mono T2.exF, r2⟩))⟩
theorem semA_io (hr : SemA G E tr mr) : SemA G E (tCons (tVar i) tr) (fun ρ => (look ρ i).bind fun _ => aIo i mr ρ) := ⟨fun {F H σ ρ α Q} S h => by
  cases e : look ρ i with
  | none => rw [e] at h; exact h.elim
  | some d =>
    skip
    rw [e] at h
    obtain ⟨v, hv, _⟩ := look_x S e
    exact ⟨v, hv, hr.run S (PostA.to h fun xs ρ2 vs F2 H2 α2 S2 r2 T2 N2 h2 => PostA.done (PostA.shift T2 N2 h2) S2 ⟨v, vs, rfl, hv, r2⟩)⟩⟩
theorem dsOf_x {F H : Hp} {σ : L2.St} {ρ : Rho} {α : Al} (S : Ste G F H σ ρ α) : ∀ {vs : List V} {xs : List AI} {ds : List D}, RepA G F σ vs xs → dsOf ρ xs = some ds → RepXs G F H vs ds
  | _, [], ds, h, e => by
    cases e
    exact h
  | _, .d x :: r, ds, h, e => by
    obtain ⟨v, ws, rfl, e2, e3⟩ := h
    unfold dsOf at e
    cases q : dsOf ρ r with
    | none => rw [q] at e; cases e
    | some es =>
      rw [q] at e
      cases e
      exact ⟨v, ws, rfl, .inl e2, dsOf_x S e3 q⟩
  | _, .io i :: r, ds, h, e => by
    obtain ⟨v, ws, rfl, e2, e3⟩ := h
    unfold dsOf at e
    cases q0 : look ρ i with
    | none => rw [q0] at e; cases e
    | some d0 =>
      rw [q0] at e
      cases q : dsOf ρ r with
      | none => rw [q] at e; cases e
      | some es =>
        rw [q] at e
        cases e
        obtain ⟨v', hv', rx⟩ := look_x S q0
        rw [e2] at hv'
        cases hv'
        exact ⟨v, ws, rfl, rx, dsOf_x S e3 q⟩
theorem dsOf_r {F : Hp} {σ : L2.St} : ∀ {vs : List V} {xs : List AI} {ds : List D}, RepA G F σ vs xs → dsOf [] xs = some ds → Reps G F vs ds
  | _, [], ds, h, e => by
    cases e
    rw [show _ = [] from h]
    exact Reps.nil
  | _, .d x :: r, ds, h, e => by
    obtain ⟨v, ws, rfl, e2, e3⟩ := h
    unfold dsOf at e
    cases q : dsOf [] r with
    | none => rw [q] at e; cases e
    | some es =>
      rw [q] at e
      cases e
      exact Reps.cons e2 (dsOf_r e3 q)
  | _, .io i :: r, ds, h, e => by
    unfold dsOf look at e
    simp at e
theorem sem_cb {r : List V → Hp → VK → Prop} {f : List D → Option O} (hc : CSem G r f) (hr : SemA G E tr mr) : Sem G E (tCB r tr) (mCB f mr) := ⟨fun {F H σ ρ α Q} S h =>
  hr.run S (PostA.to h fun xs ρ1 vs F1 H1 α1 S1 r1 T1 N1 h1 => by
    cases e : dsOf ρ1 xs with
    | none => rw [e] at h1; exact h1.elim
    | some ds =>
      rw [e] at h1
      exact hc S1 (dsOf_x S1 r1 e) (Post.shift T1 N1 h1))⟩
theorem sem_tup (hr : SemA G E tr mr) : Sem G E (tTup tr) (mTup mr) := ⟨fun {F H σ ρ α Q} S h =>
  hr.run S (PostA.to h fun xs ρ1 vs F1 H1 α1 S1 r1 T1 N1 h1 => by
    cases e : dsOf [] xs with
    | none => rw [e] at h1; exact h1.elim
    | some ds =>
      rw [e] at h1
      have rr := dsOf_r r1 e
      dsimp only [Option.bind] at h1
      split at h1
      · rename_i hl
        refine ⟨sz_of (by rw [rr.length]; exact hl), fun p hp => Post.newV (Post.shift T1 N1 h1) S1 hp (Rep.ofTup upd_same (rr.mono (Ex.new (S1.fresh hp))))⟩
      · exact h1.elim)⟩
theorem sem_lst (hr : SemA G E tr mr) : Sem G E (tLst tr) (mLst mr) := ⟨fun {F H σ ρ α Q} S h =>
  hr.run S (PostA.to h fun xs ρ1 vs F1 H1 α1 S1 r1 T1 N1 h1 => by
    cases e : dsOf [] xs with
    | none => rw [e] at h1; exact h1.elim
    | some ds =>
      rw [e] at h1
      have rr := dsOf_r r1 e
      dsimp only [Option.bind] at h1
      split at h1
      · rename_i hl
        refine ⟨sz_of (by rw [rr.length]; exact hl), fun p hp => Post.newL (Post.shift T1 N1 h1) S1 hp rr⟩
      · exact h1.elim)⟩
end
end VL

namespace VL
open PySem PySem.Spec
open PyProof.Rows L2
open Evl (Ex sz_of)

/-! ### statements -/
inductive Fl where
  | nx | ret (o : O) | bk | ct
abbrev MS := List Nat → Rho → Option (Rs Fl × Rho)
def Pin (pins : List Nat) (σ σ' : L2.St) : Prop := ∀ i ∈ pins, σ'[i]? = σ[i]?
theorem Pin.refl {pins : List Nat} {σ : L2.St} : Pin pins σ σ := fun _ _ => rfl
theorem Pin.trans {pins : List Nat} {σ σ1 σ2 : L2.St} (a : Pin pins σ σ1) (b : Pin pins σ1 σ2) : Pin pins σ σ2 := fun i h => (b i h).trans (a i h)
def okS (G : Cn) (F H : Hp) (σ : L2.St) (α : Al) (pins : List Nat) (D : Ends) : Fl → Rho → Prop
  | .nx, ρ' => ∀ σ' F' H' α', Ste G F' H' σ' ρ' α' → Stp (Own α) F H F' H' → New (Own α) H (Own α') → Pin pins σ σ' → D.nx σ' H'
  | .bk, ρ' => ∀ σ' F' H' α', Ste G F' H' σ' ρ' α' → Stp (Own α) F H F' H' → New (Own α) H (Own α') → Pin pins σ σ' → D.bk σ' H'
  | .ct, ρ' => ∀ σ' F' H' α', Ste G F' H' σ' ρ' α' → Stp (Own α) F H F' H' → New (Own α) H (Own α') → Pin pins σ σ' → D.ct σ' H'
  | .ret o, ρ' => ∀ v σ' F' H' α' β, Ste G F' H' σ' ρ' α' → RepO G F' H' β v o → Stp (Own α) F H F' H' → (∀ a ∈ β, ¬ Own α' a) → New (Own α) H (fun a => Own α' a ∨ a ∈ β) → Pin pins σ σ' → D.rt v H'
abbrev PostS (G : Cn) (E : XK) (F H : Hp) (σ : L2.St) (α : Al) (pins : List Nat) (r : Option (Rs Fl × Rho)) (D : Ends) : Prop := PostG G E F H α (okS G F H σ α pins D) r
structure SemS (G : Cn) (E : XK) (t : TS) (m : MS) : Prop where
  run : ∀ {F H σ ρ α D} {pins : List Nat}, Ste G F H σ ρ α → PostS G E F H σ α pins (m pins ρ) D → t D σ H

/-- one after the other -/
def sThen (r : Option (Rs Fl × Rho)) (k : Rho → Option (Rs Fl × Rho)) : Option (Rs Fl × Rho) :=
  match r with
  | some (.ok .nx, ρ) => k ρ
  | x => x
def sSeq (a b : MS) : MS := fun p ρ => sThen (a p ρ) (b p)
def sNx : MS := fun _ ρ => some (.ok .nx, ρ)
def sBk : MS := fun _ ρ => some (.ok .bk, ρ)
def sCt : MS := fun _ ρ => some (.ok .ct, ρ)
def sIf (c : M) (a b : MS) : MS := fun p ρ => bnd (c ρ) fun x ρ1 => match x.frz with
  | .bl true => a p ρ1
  | .bl false => b p ρ1
  | _ => none
def sRet (a : M) : MS := fun _ ρ => bnd (a ρ) fun o ρ1 => some (.ok (.ret o), ρ1)
def sRetN : MS := fun _ ρ => some (.ok (.ret (.val .non)), ρ)
def sDrop (a : M) : MS := fun _ ρ => bnd (a ρ) fun o ρ1 => some (.ok .nx, ρ1)
/-- a slot gets data, or an object of one's own -/
def setV (pins : List Nat) (i : Nat) (o : O) (ρ : Rho) : Option Rho := if i ∈ pins then none else if i < ρ.length then some (ρ.set i (some o)) else none
def sAsgV (i : Nat) (a : M) : MS := fun p ρ => bnd (a ρ) fun o ρ1 => (setV p i (.val o.frz) ρ1).map fun ρ2 => (.ok .nx, ρ2)
def sAsgO (i : Nat) (a : M) : MS := fun p ρ => bnd (a ρ) fun o ρ1 => (setV p i o ρ1).map fun ρ2 => (.ok .nx, ρ2)

/-! ### targets: names, tuples of names -/
inductive Pat where
  | nm (i : Nat) | tu (ps : List Pat)
mutual
def bindP : List Nat → Pat → D → Rho → Option Rho
  | pins, .nm i, d, ρ => setV pins i (.val d) ρ
  | pins, .tu ps, .tup ds, ρ => if ds.length = ps.length then bindPs pins ps ds ρ else none
  | _, .tu _, _, _ => none
def bindPs : List Nat → List Pat → List D → Rho → Option Rho
  | _, [], [], ρ => some ρ
  | pins, p :: ps, d :: ds, ρ => (bindP pins p d ρ).bind (bindPs pins ps ds)
  | _, _, _, _ => none
end
mutual
def Pat.slots : Pat → List Nat
  | .nm i => [i]
  | .tu ps => slotsL ps
def slotsL : List Pat → List Nat
  | [] => []
  | p :: ps => p.slots ++ slotsL ps
end
/-- the target stores: the own objects stay but those of overwritten slots -/
def GSem (G : Cn) (g : TG) (p : Pat) : Prop := ∀ {F H σ ρ α x d ρ'} {pins : List Nat} {Q : L2.St → Hp → Prop}, Ste G F H σ ρ α → Rep G F x d → bindP pins p d ρ = some ρ' →
  (∀ σ' α', Ste G F H σ' ρ' α' → (∀ a, Own α' a → Own α a) → Pin pins σ σ' → (∀ j, j ∉ p.slots → σ'[j]? = σ[j]?) ∧ σ'.length = σ.length → Q σ' H) → g x σ H Q
def GsSem (G : Cn) (g : TGs) (ps : List Pat) : Prop := ∀ {F H σ ρ α xs ds ρ'} {pins : List Nat} {Q : L2.St → Hp → Prop}, Ste G F H σ ρ α → Reps G F xs ds → bindPs pins ps ds ρ = some ρ' →
  (∀ σ' α', Ste G F H σ' ρ' α' → (∀ a, Own α' a → Own α a) → Pin pins σ σ' → (∀ j, j ∉ slotsL ps → σ'[j]? = σ[j]?) ∧ σ'.length = σ.length → Q σ' H) → g xs σ H Q
section
variable {G : Cn} {E : XK} {F F1 H H1 : Hp} {σ σ1 : L2.St} {ρ ρ1 : Rho} {α α1 : Al} {pins : List Nat} {D : Ends}
theorem okS.shift (s : Stp (Own α) F H F1 H1) (n : New (Own α) H (Own α1)) (p : Pin pins σ σ1) : ∀ (f : Fl) (ρ' : Rho), okS G F H σ α pins D f ρ' → okS G F1 H1 σ1 α1 pins D f ρ'
  | .nx, _, h => fun σ' F' H' α' S T N P => h σ' F' H' α' S (s.trans T n) (New.trans s n N) (p.trans P)
  | .bk, _, h => fun σ' F' H' α' S T N P => h σ' F' H' α' S (s.trans T n) (New.trans s n N) (p.trans P)
  | .ct, _, h => fun σ' F' H' α' S T N P => h σ' F' H' α' S (s.trans T n) (New.trans s n N) (p.trans P)
  | .ret o, _, h => fun v σ' F' H' α' β S R T N1 N2 P => h v σ' F' H' α' β S R (s.trans T n) N1 (New.trans s n N2) (p.trans P)
theorem PostS.shift {r : Option (Rs Fl × Rho)} (s : Stp (Own α) F H F1 H1) (n : New (Own α) H (Own α1)) (p : Pin pins σ σ1) (h : PostS G E F H σ α pins r D) : PostS G E F1 H1 σ1 α1 pins r D :=
  PostG.shift s n h fun f ρ' => okS.shift s n p f ρ'
theorem PostS.nx (h : PostS G E F H σ α pins (some (.ok .nx, ρ)) D) (S : Ste G F H σ ρ α) : D.nx σ H := h σ F H α S .refl .refl .refl
theorem PostS.then {r : Option (Rs Fl × Rho)} {k : Rho → Option (Rs Fl × Rho)} {N : L2.St → Hp → Prop} (h : PostS G E F H σ α pins (sThen r k) D)
    (hk : ∀ ρ1 σ1 F1 H1 α1, Ste G F1 H1 σ1 ρ1 α1 → Stp (Own α) F H F1 H1 → New (Own α) H (Own α1) → Pin pins σ σ1 → PostS G E F H σ α pins (k ρ1) D → N σ1 H1) : PostS G E F H σ α pins r { D with nx := N } := by
  match r, h with
  | none, h => exact h
  | some (.ok .nx, ρ'), h => exact fun σ' F' H' α' S T N P => hk ρ' σ' F' H' α' S T N P h
  | some (.ok .bk, ρ'), h => exact h
  | some (.ok .ct, ρ'), h => exact h
  | some (.ok (.ret o), ρ'), h => exact h
  | some (.ex c none, _), h => exact h
  | some (.ex c (some fs), _), h => exact h
variable {t u : TS} {m n : MS} {te : TE} {ma : M} {tc : TT} {mc : M} {i : Nat}
theorem semS_seq (ht : SemS G E t m) (hu : SemS G E u n) : SemS G E (tSeq t u) (sSeq m n) := ⟨fun S h =>
  ht.run S (PostS.then h fun ρ1 σ1 F1 H1 α1 S1 T1 N1 P1 h1 => hu.run S1 (PostS.shift T1 N1 P1 h1))⟩
theorem semS_nx : SemS G E tNext sNx := ⟨fun S h => PostS.nx h S⟩
theorem semS_bk : SemS G E tBreak sBk := ⟨fun {F H σ ρ α D pins} S h => h σ F H α S .refl .refl .refl⟩
theorem semS_ct : SemS G E tCont sCt := ⟨fun {F H σ ρ α D pins} S h => h σ F H α S .refl .refl .refl⟩
theorem semS_if (hc : SemT G E tc mc) (ha : SemS G E t m) (hb : SemS G E u n) : SemS G E (tIfS tc t u) (sIf mc m n) := ⟨fun {F H σ ρ α D pins} S h => by
  refine hc.to S h (fun o ρ1 b F1 H1 α1 S1 hb1 T1 N1 hc h1 => ?_) fun o ρ1 hn h1 => ?_
  · obtain ⟨c, e⟩ := hc
    obtain rfl := hb1 c e
    try dsimp only at h1
    rw [e] at h1
    cases b with
    | true => exact ha.run S1 (PostS.shift T1 N1 .refl h1)
    | false => exact hb.run S1 (PostS.shift T1 N1 .refl h1)
  · try dsimp only at h1
    split at h1
    · rename_i e
      exact hn _ e
    · rename_i e
      exact hn _ e
    · exact h1⟩
theorem semS_ret (ha : Sem G E te ma) : SemS G E (tRet te) (sRet ma) := ⟨fun {F H σ ρ α D pins} S h =>
  ha.run S (PostG.bind h fun o ρ1 hp v F1 H1 α1 β S1 r1 T1 N1 N2 => hp v σ F1 H1 α1 β S1 r1 T1 N1 N2 .refl)⟩
theorem semS_retN : SemS G E tRetN sRetN := ⟨fun {F H σ ρ α D pins} S h => h .non σ F H α [] S ⟨rfl, Rep.ofNon⟩ .refl (fun _ z => nomatch z) (fun a z => by
    rcases z with z | z
    · exact .inl z
    · cases z) .refl⟩
theorem semS_drop (ha : Sem G E te ma) : SemS G E (tDrop te) (sDrop ma) := ⟨fun {F H σ ρ α D pins} S h =>
  ha.run S (Post.to h fun o ρ1 v F1 H1 α1 S1 r1 T1 N1 h1 => PostS.nx (PostS.shift T1 N1 .refl h1) S1)⟩

/-! ### a slot is stored -/
def Al.set (α : Al) (i : Nat) (β : List Addr) : Al := fun j => if j = i then β else α j
theorem Al.set_eq {α : Al} {i : Nat} {β : List Addr} : Al.set α i β i = β := if_pos rfl
theorem Al.set_ne {α : Al} {i j : Nat} {β : List Addr} (h : j ≠ i) : Al.set α i β j = α j := if_neg h
theorem Al.own_set {α : Al} {i : Nat} {β : List Addr} {a : Addr} (h : Own (Al.set α i β) a) : Own α a ∨ a ∈ β := by
  obtain ⟨j, hj⟩ := h
  by_cases e : j = i
  · subst e
    rw [Al.set_eq] at hj
    exact .inr hj
  · rw [Al.set_ne e] at hj
    exact .inl ⟨j, hj⟩
theorem Ste.store {o : O} {v : V} {β : List Addr} (S : Ste G F H σ ρ α) (r : RepO G F H β v o) (hβ : ∀ j, j ≠ i → ∀ a ∈ β, a ∉ α j) (hi : i < ρ.length) : Ste G F H (σ.set i (some v)) (ρ.set i (some o)) (Al.set α i β) where
  ex := S.ex
  len := by rw [List.length_set, List.length_set]; exact S.len
  slot := fun j x e => by
    by_cases q : j = i
    · subst q
      rw [List.getElem?_set_self hi] at e
      cases e
      exact ⟨v, List.getElem?_set_self (by rw [S.len]; exact hi), by rw [Al.set_eq]; exact r⟩
    · rw [List.getElem?_set_ne (Ne.symm q)] at e
      obtain ⟨w, h1, r1⟩ := S.slot j x e
      exact ⟨w, by rw [List.getElem?_set_ne (Ne.symm q)]; exact h1, by rw [Al.set_ne q]; exact r1⟩
  off := fun j h => by
    by_cases q : j = i
    · subst q
      exact absurd (List.getElem?_set_self hi) (h o)
    · rw [Al.set_ne q]
      exact S.off j fun x e => h x (by rw [List.getElem?_set_ne (Ne.symm q)]; exact e)
  dis := fun j k a ne hj hk => by
    by_cases q : j = i
    · subst q
      rw [Al.set_eq] at hj
      rw [Al.set_ne (Ne.symm ne)] at hk
      exact hβ k (Ne.symm ne) a hj hk
    · rw [Al.set_ne q] at hj
      by_cases q2 : k = i
      · subst q2
        rw [Al.set_eq] at hk
        exact hβ j q a hk hj
      · rw [Al.set_ne q2] at hk
        exact S.dis j k a ne hj hk
theorem setV_some {ρ' : Rho} {o : O} (h : setV pins i o ρ = some ρ') : i ∉ pins ∧ i < ρ.length ∧ ρ' = ρ.set i (some o) := by
  unfold setV at h
  split at h
  · cases h
  · split at h
    · cases h
      exact ⟨by assumption, by assumption, rfl⟩
    · cases h
theorem Pin.set {v : Option V} (h : i ∉ pins) : Pin pins σ (σ.set i v) := fun j hj => by
  rw [List.getElem?_set_ne]
  rintro rfl
  exact h hj
theorem semS_asgV (ha : Sem G E te ma) : SemS G E (tAsg te (gName i)) (sAsgV i ma) := ⟨fun {F H σ ρ α D pins} S h =>
  ha.run S (Post.to h fun o ρ1 v F1 H1 α1 S1 r1 T1 N1 h1 => by
    cases e : setV pins i (.val o.frz) ρ1 with
    | none => rw [e] at h1; exact h1.elim
    | some ρ2 =>
      rw [e] at h1
      obtain ⟨np, hi, rfl⟩ := setV_some e
      exact h1 _ F1 H1 _ (S1.store (β := []) ⟨rfl, r1⟩ (fun _ _ _ z => nomatch z) hi) T1 (fun a z => by
        rcases Al.own_set z with z | z
        · exact N1 a z
        · cases z) (Pin.set np))⟩
theorem semS_asgO (ha : Sem G E te ma) : SemS G E (tAsg te (gName i)) (sAsgO i ma) := ⟨fun {F H σ ρ α D pins} S h =>
  ha.run S (PostG.bind h fun o ρ1 h1 v F1 H1 α1 β S1 r1 T1 M1 N1 => by
    cases e : setV pins i o ρ1 with
    | none => rw [e] at h1; exact h1.elim
    | some ρ2 =>
      rw [e] at h1
      obtain ⟨np, hi, rfl⟩ := setV_some e
      exact h1 _ F1 H1 _ (S1.store r1 (fun j _ a ha hj => M1 a ha ⟨j, hj⟩) hi) T1 (fun a z => by
        rcases Al.own_set z with z | z
        · exact N1 a (.inl z)
        · exact N1 a (.inr z)) (Pin.set np))⟩

theorem g_name : GSem G (gName i) (.nm i) := fun {F H σ ρ α x d ρ' pins Q} S r e k => by
  unfold bindP at e
  obtain ⟨np, hi, rfl⟩ := setV_some e
  exact k _ _ (S.store (β := []) ⟨rfl, r⟩ (fun _ _ _ z => nomatch z) hi) (fun a z => by
    rcases Al.own_set z with z | z
    · exact z
    · cases z) (Pin.set np) ⟨fun j hj => by
    rw [List.getElem?_set_ne]
    rintro rfl
    exact hj (by simp [Pat.slots]), List.length_set ..⟩
theorem gs_nil : GsSem G gNil [] := fun {F H σ ρ α xs ds ρ' pins Q} S r e k => by
  cases ds with
  | nil =>
    unfold bindPs at e
    cases e
    exact ⟨r.of_nil, k σ α S (fun _ z => z) .refl ⟨fun _ _ => rfl, rfl⟩⟩
  | cons d ds =>
    unfold bindPs at e
    cases e
theorem gs_cons {g : TG} {gs : TGs} {p : Pat} {ps : List Pat} (h1 : GSem G g p) (h2 : GsSem G gs ps) : GsSem G (gCons g gs) (p :: ps) := fun {F H σ ρ α xs ds ρ' pins Q} S r e k => by
  cases ds with
  | nil =>
    unfold bindPs at e
    cases e
  | cons d ds =>
    unfold bindPs at e
    cases e1 : bindP pins p d ρ with
    | none => rw [e1] at e; cases e
    | some ρ1 =>
      rw [e1] at e
      obtain ⟨v, r', rfl, q, t⟩ := r.of_cons
      exact ⟨v, r', rfl, h1 S q e1 fun σ1 α1 S1 o1 P1 J1 => h2 S1 t e fun σ2 α2 S2 o2 P2 J2 => k σ2 α2 S2 (fun a z => o1 a (o2 a z)) (P1.trans P2) ⟨fun j hj => by
        unfold slotsL at hj
        rw [List.mem_append, not_or] at hj
        exact (J2.1 j hj.2).trans (J1.1 j hj.1), J2.2.trans J1.2⟩⟩
theorem g_tup {gs : TGs} {ps : List Pat} {n : Nat} (h : GsSem G gs ps) (hn : ps.length = n := by rfl) : GSem G (gTup G.K n gs) (.tu ps) := fun {F H σ ρ α x d ρ' pins Q} S r e k => by
  cases d with
  | tup ds =>
    unfold bindP at e
    split at e
    · rename_i hl
      unfold Rep at r
      obtain ⟨a, vs, rfl, h1, h2⟩ := r
      exact ⟨a, vs, rfl, SqT.of (S.ex.x h1), by rw [h2.length, hl, hn], h S h2 e fun σ' α' S' o' P' J' => k σ' α' S' o' P' ⟨fun j hj => J'.1 j (by unfold Pat.slots at hj; exact hj), J'.2⟩⟩
    · cases e
  | _ => unfold bindP at e; cases e
def sAsgP (p : Pat) (a : M) : MS := fun pins ρ => bnd (a ρ) fun o ρ1 => (bindP pins p o.frz ρ1).map fun ρ2 => (.ok .nx, ρ2)
theorem semS_asgP {g : TG} {p : Pat} (hg : GSem G g p) (ha : Sem G E te ma) : SemS G E (tAsg te g) (sAsgP p ma) := ⟨fun {F H σ ρ α D pins} S h =>
  ha.run S (Post.to h fun o ρ1 v F1 H1 α1 S1 r1 T1 N1 h1 => by
    cases e : bindP pins p o.frz ρ1 with
    | none => rw [e] at h1; exact h1.elim
    | some ρ2 =>
      rw [e] at h1
      exact hg S1 r1 e fun σ' α' S' o' P' _ => h1 σ' F1 H1 α' S' T1 (fun a z => N1 a (o' a z)) P')⟩
end
end VL

namespace VL
open PySem PySem.Spec
open PyProof.Rows L2
open Evl (Ex sz_of)

/-! ### what is walked -/
def Kpz (H H' : Hp) : Prop := ∀ b od u, H b = some (.frz od u) → H' b = some (.frz od u)
theorem Kpz.refl (H : Hp) : Kpz H H := fun _ _ _ h => h
theorem Kpz.trans {H H1 H2 : Hp} (a : Kpz H H1) (b : Kpz H1 H2) : Kpz H H2 := fun c od u h => b c od u (a c od u h)
theorem Kpz.upd {H : Hp} {a : Addr} {o v : HO} (h : H a = some v) (n : ∀ od u, v ≠ .frz od u) : Kpz H (upd H a o) := fun b od u hb => by
  have ne : b ≠ a := fun z => by rw [z, h] at hb; exact n od u (Option.some.inj hb)
  rw [upd_ne ne]
  exact hb
theorem Kpz.of {H H1 : Hp} (e : Ex H H1) : Kpz H H1 := fun b od u h => e b _ h
theorem Stp.kpzA {A : Addr → Prop} {F H F' H' : Hp} (T : Stp A F H F' H') (hA : ∀ a od u, H a = some (.frz od u) → ¬ A a) : Kpz H H' := fun b od u h => T.kept h (hA b od u h) (.inr rfl)
theorem RepLL.nofrz {G : Cn} {F H : Hp} : ∀ {bs : List Addr} {dss : List (List D)}, RepLL G F H bs dss → ∀ b ∈ bs, ∀ od u, H b ≠ some (.frz od u)
  | _, [], h, b, hb, _, _ => by
    unfold RepLL at h
    subst h
    cases hb
  | _, ds :: dss, h, b, hb, od, u => by
    unfold RepLL at h
    obtain ⟨c, r, vs, rfl, e1, e2, _, t⟩ := h
    rcases List.mem_cons.mp hb with rfl | hb
    · rw [e2]; exact fun z => nomatch z
    · exact RepLL.nofrz t b hb od u
section
variable {G : Cn} {F H : Hp}
mutual
theorem RepT.nofrz : ∀ {β : List Addr} {v : V} (t : T), RepT G F H β v t → ∀ b ∈ β, ∀ od u, H b ≠ some (.frz od u)
  | β, v, .d x, h, b, hb, _, _ => by
    unfold RepT at h
    rw [h.1] at hb
    cases hb
  | β, v, .l ts, h, b, hb, od, u => by
    unfold RepT at h
    obtain ⟨a, vs, r, _, rfl, e1, e2, e3⟩ := h
    rcases List.mem_cons.mp hb with rfl | hb
    · rw [e2]; exact fun z => nomatch z
    · exact RepTs.nofrz ts e3 b hb od u
  | β, v, .k ts, h, b, hb, od, u => by
    unfold RepT at h
    obtain ⟨a, vs, r, _, rfl, e1, e2, e3⟩ := h
    rcases List.mem_cons.mp hb with rfl | hb
    · rw [e2]; exact fun z => nomatch z
    · exact RepTk.nofrz ts e3 b hb od u
  | β, v, .n ts, h, b, hb, od, u => by
    unfold RepT at h
    obtain ⟨a, vs, r, _, rfl, e1, e2, e3⟩ := h
    rcases List.mem_cons.mp hb with rfl | hb
    · rw [e2]; exact fun z => nomatch z
    · exact RepTn.nofrz ts e3 b hb od u
  | β, v, .i c ts, h, b, hb, od, u => by
    unfold RepT at h
    obtain ⟨a, dx, vs, r, _, rfl, e1, e2, e3, e4, e5⟩ := h
    rcases List.mem_cons.mp hb with rfl | hb
    · rw [e3]; exact fun z => nomatch z
    · rcases List.mem_cons.mp hb with rfl | hb
      · rw [e4]; exact fun z => nomatch z
      · exact RepTf.nofrz ts e5 b hb od u
theorem RepTs.nofrz : ∀ {β : List Addr} {vs : List V} (ts : List T), RepTs G F H β vs ts → ∀ b ∈ β, ∀ od u, H b ≠ some (.frz od u)
  | β, vs, [], h, b, hb, _, _ => by
    unfold RepTs at h
    rw [h.1] at hb
    cases hb
  | β, vs, t :: ts, h, b, hb, od, u => by
    unfold RepTs at h
    obtain ⟨v, r, β1, β2, _, rfl, h1, h2⟩ := h
    rcases List.mem_append.mp hb with hb | hb
    · exact RepT.nofrz t h1 b hb od u
    · exact RepTs.nofrz ts h2 b hb od u
theorem RepTk.nofrz : ∀ {β : List Addr} {vs : List (Key × V)} (ts : List (Key × T)), RepTk G F H β vs ts → ∀ b ∈ β, ∀ od u, H b ≠ some (.frz od u)
  | β, vs, [], h, b, hb, _, _ => by
    unfold RepTk at h
    rw [h.1] at hb
    cases hb
  | β, vs, (x, t) :: ts, h, b, hb, od, u => by
    unfold RepTk at h
    obtain ⟨v, r, β1, β2, _, rfl, h1, h2⟩ := h
    rcases List.mem_append.mp hb with hb | hb
    · exact RepT.nofrz t h1 b hb od u
    · exact RepTk.nofrz ts h2 b hb od u
theorem RepTn.nofrz : ∀ {β : List Addr} {vs : List (NestedKey × Addr × V)} (ts : List (NestedKey × T)), RepTn G F H β vs ts → ∀ b ∈ β, ∀ od u, H b ≠ some (.frz od u)
  | β, vs, [], h, b, hb, _, _ => by
    unfold RepTn at h
    rw [h.1] at hb
    cases hb
  | β, vs, (x, t) :: ts, h, b, hb, od, u => by
    unfold RepTn at h
    obtain ⟨q, v, r, β1, β2, _, rfl, _, h1, h2⟩ := h
    rcases List.mem_append.mp hb with hb | hb
    · exact RepT.nofrz t h1 b hb od u
    · exact RepTn.nofrz ts h2 b hb od u
theorem RepTf.nofrz : ∀ {β : List Addr} {vs : List (Str × V)} (ts : List (Str × T)), RepTf G F H β vs ts → ∀ b ∈ β, ∀ od u, H b ≠ some (.frz od u)
  | β, vs, [], h, b, hb, _, _ => by
    unfold RepTf at h
    rw [h.1] at hb
    cases hb
  | β, vs, (x, t) :: ts, h, b, hb, od, u => by
    unfold RepTf at h
    obtain ⟨v, r, β1, β2, _, rfl, h1, h2⟩ := h
    rcases List.mem_append.mp hb with hb | hb
    · exact RepT.nofrz t h1 b hb od u
    · exact RepTf.nofrz ts h2 b hb od u
end
end
theorem RepO.nofrz {G : Cn} {F H : Hp} {β : List Addr} {v : V} {o : O} (h : RepO G F H β v o) : ∀ b ∈ β, ∀ od u, H b ≠ some (.frz od u) := fun b hb od u => by
  cases o with
  | val d =>
    obtain ⟨rfl, _⟩ := h
    cases hb
  | lst ds =>
    obtain ⟨a, vs, rfl, rfl, e1, e2, _⟩ := h
    obtain rfl : b = a := by simpa using hb
    rw [e2]; exact fun z => nomatch z
  | dic ds =>
    obtain ⟨a, vs, rfl, rfl, e1, e2, _⟩ := h
    obtain rfl : b = a := by simpa using hb
    rw [e2]; exact fun z => nomatch z
  | ins c fs =>
    obtain ⟨a, dx, vs, rfl, rfl, _, e1, e2, e3, e4, _⟩ := h
    have : b = a ∨ b = dx := by simpa using hb
    rcases this with rfl | rfl
    · rw [e3]; exact fun z => nomatch z
    · rw [e4]; exact fun z => nomatch z
  | ll dss =>
    obtain ⟨a, bs, rfl, rfl, _, e1, e2, t⟩ := h
    rcases List.mem_cons.mp hb with rfl | hb
    · rw [e2]; exact fun z => nomatch z
    · exact t.nofrz b hb od u
  | dcn ds =>
    obtain ⟨a, vs, rfl, rfl, e1, e2, _⟩ := h
    obtain rfl : b = a := by simpa using hb
    rw [e2]; exact fun z => nomatch z
  | tr t => exact h.2.nofrz t b hb od u
theorem Ste.nofrz {G : Cn} {F H : Hp} {σ : L2.St} {ρ : Rho} {α : Al} (S : Ste G F H σ ρ α) : ∀ a od u, H a = some (.frz od u) → ¬ Own α a := fun a od u h ⟨i, hi⟩ => by
  by_cases q : ∃ o, ρ[i]? = some (some o)
  · obtain ⟨o, ho⟩ := q
    obtain ⟨v, _, r⟩ := S.slot i o ho
    exact r.nofrz a hi od u h
  · rw [S.off i fun o e => q ⟨o, e⟩] at hi
    cases hi
theorem Stp.kpz {G : Cn} {F H F' H' : Hp} {σ : L2.St} {ρ : Rho} {α : Al} (T : Stp (Own α) F H F' H') (S : Ste G F H σ ρ α) : Kpz H H' := T.kpzA S.nofrz
def ItSem (G : Cn) (F1 H1 : Hp) (J : It) (ds : List D) : Prop := ∀ {F' H' : Hp} (i : Nat), Ex F1 F' → Lx F' H' → Kpz H1 H' →
  (i < ds.length → J.go i H') ∧ (ds.length ≤ i → J.stop i H') ∧ ∀ x H'' d, ds[i]? = some d → J.yld i H' x H'' →
    ∃ F'', Ex F' F'' ∧ Ex H' H'' ∧ (∀ b o, F'' b = some o → F' b = some o ∨ H' b = none) ∧ Lx F'' H'' ∧ Rep G F'' x d
abbrev MI := Rho → Option (List D × Rho)
structure SemI (G : Cn) (w : TI) (m : MI) : Prop where
  run : ∀ {F H σ ρ α ds ρ1} {R : It → Hp → Prop}, Ste G F H σ ρ α → m ρ = some (ds, ρ1) →
    (∀ J F1 H1 α1, Ste G F1 H1 σ ρ1 α1 → Stp (Own α) F H F1 H1 → New (Own α) H (Own α1) → ItSem G F1 H1 J ds → R J H1) → w σ H R
/-- a list, a tuple that an expression gives -/
def iSeq (a : M) : MI := fun ρ => match a ρ with
  | some (.ok o, ρ1) => match o.frz with
    | .lst ds => some (ds, ρ1)
    | _ => none
  | _ => none
def iTupl (a : M) : MI := fun ρ => match a ρ with
  | some (.ok o, ρ1) => match o.frz with
    | .tup ds => some (ds, ρ1)
    | _ => none
  | _ => none
def range (lo : Int) (n : Nat) : List D := (List.range n).map fun (i : Nat) => D.int (lo + (i : Int))
def iRange1 (a : MA) : MI := fun ρ => match a ρ with
  | some (.ok [.d (.int j)], ρ1) => if -1000000 ≤ j ∧ j ≤ 1000000 then some (range 0 j.toNat, ρ1) else none
  | _ => none
def iRange2 (a : MA) : MI := fun ρ => match a ρ with
  | some (.ok [.d (.int i), .d (.int j)], ρ1) => if -1000000 ≤ i ∧ i ≤ 1000000 ∧ -1000000 ≤ j ∧ j ≤ 1000000 then some (range i (j - i).toNat, ρ1) else none
  | _ => none
section
variable {G : Cn} {E : XK} {F F1 F2 H H1 H2 : Hp} {σ σ1 : L2.St} {ρ ρ1 : Rho} {α α1 : Al}
/-- what stood stands, but what was frozen may be locked now -/
def Kpt (F H H1 : Hp) : Prop := ∀ b o, H b = some o → H1 b = some o ∨ (F b = some o ∧ Lk o = true ∧ ∃ od, H1 b = some (.frz od o))
theorem kpt {F H H1 : Hp} (e : Ex H H1) : Kpt F H H1 := fun b o h => .inl (e b o h)
theorem Lx.kpt {F H H1 : Hp} (l : Lx F H) (k : Kpt F H H1) : Lx F H1 := fun a o h => (l a o h).elim (fun z => (k a o z).elim .inl fun y => .inr y.2) fun ⟨z, od, y⟩ => (k a _ y).elim (fun x => .inr ⟨z, od, x⟩) fun x => by cases x.2.1
theorem Ste.grow (S : Ste G F H σ ρ α) (eF : Ex F F1) (eH : Kpt F H H1) (nf : ∀ b o, F1 b = some o → F b = some o ∨ H b = none) (eX : Lx F1 H1) : Ste G F1 H1 σ ρ α where
  ex := eX
  len := S.len
  slot := fun i o e => by
    obtain ⟨v, h1, r⟩ := S.slot i o e
    refine ⟨v, h1, r.move eF (fun b hb => ?_) fun b hb u q => (eH b u q).elim id fun z => by rw [(r.mem b hb).1] at z; cases z.1⟩
    obtain ⟨f0, u, hu⟩ := r.mem b hb
    cases q : F1 b with
    | none => rfl
    | some u' =>
      rcases nf b u' q with z | z
      · rw [f0] at z; cases z
      · rw [hu] at z; cases z
  off := S.off
  dis := S.dis
theorem Stp.grow {A : Addr → Prop} (eF : Ex F F1) (eH : Kpt F H H1) (nf : ∀ b o, F1 b = some o → F b = some o ∨ H b = none) : Stp A F H F1 H1 :=
  ⟨eF, fun b o h _ => eH b o h, fun b o h => (nf b o h).elim .inl fun z => .inr (.inl z)⟩
theorem Post.okEnd {a : M} {o : O} {R : VK} (e : a ρ = some (.ok o, ρ1))
    (hk : ∀ v F1 H1 α1, Ste G F1 H1 σ ρ1 α1 → Rep G F1 v o.frz → Stp (Own α) F H F1 H1 → New (Own α) H (Own α1) → R v H1) : Post G E F H σ α (a ρ) R := by
  rw [e]
  exact fun v F1 H1 α1 β S r T N1 N2 => by
    obtain ⟨F2, S2, r2, T2, N3⟩ := S.freeze r T N1 N2
    exact hk v F2 H1 α1 S2 r2 T2 N3
theorem it_list {a : Addr} {vs : List V} {ds : List D} (h : F1 a = some (.lst vs)) (r : Reps G F1 vs ds) : ItSem G F1 H1 (Itl G.K a) ds := fun {F' H'} i e1 e2 _ => by
  have hs : SqL G.K H' a vs := SqL.of ((Lx.pre e1 e2).x h)
  refine ⟨fun hi => ?_, fun hi => ?_, fun x H'' d hd y => ?_⟩
  · have hi' : i < vs.length := by rw [r.length]; exact hi
    exact ⟨vs, vs[i], hs, by simp [hi']⟩
  · exact ⟨vs, hs, by rw [r.length]; exact hi⟩
  · obtain ⟨rfl, y⟩ := y
    obtain ⟨v, h1, h2⟩ := r.get hd
    have := y vs hs
    rw [h1] at this
    cases this
    exact ⟨F', Ex.refl F', Ex.refl _, fun _ _ z => .inl z, e2, h2.mono e1⟩
theorem it_tup {a : Addr} {vs : List V} {ds : List D} (h : F1 a = some (.tup vs)) (r : Reps G F1 vs ds) : ItSem G F1 H1 (Itt G.K a) ds := fun {F' H'} i e1 e2 _ => by
  have hs : SqT G.K H' a vs := SqT.of ((Lx.pre e1 e2).x h)
  refine ⟨fun hi => ?_, fun hi => ?_, fun x H'' d hd y => ?_⟩
  · have hi' : i < vs.length := by rw [r.length]; exact hi
    exact ⟨vs, vs[i], hs, by simp [hi']⟩
  · exact ⟨vs, hs, by rw [r.length]; exact hi⟩
  · obtain ⟨rfl, y⟩ := y
    obtain ⟨v, h1, h2⟩ := r.get hd
    have := y vs hs
    rw [h1] at this
    cases this
    exact ⟨F', Ex.refl F', Ex.refl _, fun _ _ z => .inl z, e2, h2.mono e1⟩
theorem range_get {lo : Int} {n i : Nat} {d : D} (h : (range lo n)[i]? = some d) : i < n ∧ d = .int (lo + i) := by
  unfold range at h
  rw [List.getElem?_map] at h
  cases e : (List.range n)[i]? with
  | none => rw [e] at h; cases h
  | some j =>
    rw [e] at h
    cases h
    obtain ⟨h1, h2⟩ := List.getElem?_eq_some_iff.mp e
    rw [List.length_range] at h1
    rw [List.getElem_range] at h2
    subst h2
    exact ⟨h1, rfl⟩
theorem range_len {lo : Int} {n : Nat} : (range lo n).length = n := by
  unfold range
  rw [List.length_map, List.length_range]
theorem it_range {lo : Int} {n : Nat} : ItSem G F1 H1 (Itr lo n) (range lo n) := fun {F' H'} i e1 e2 _ => by
  refine ⟨fun hi => ?_, fun hi => ?_, fun x H'' d hd y => ?_⟩
  · rw [range_len] at hi; exact hi
  · rw [range_len] at hi; exact hi
  · obtain ⟨rfl, rfl⟩ := y
    obtain ⟨_, rfl⟩ := range_get hd
    exact ⟨F', Ex.refl F', Ex.refl _, fun _ _ z => .inl z, e2, Rep.ofInt⟩
theorem semI_list {tl : TE} {a : M} (ha : Sem G E tl a) : SemI G (iList G.K tl) (iSeq a) := ⟨fun {F H σ ρ α ds ρ1 R} S e k => by
  unfold iSeq at e
  split at e
  · rename_i o ρ' e1
    split at e
    · rename_i ds' e2
      cases e
      refine ha.run S (Post.okEnd e1 fun v F1 H1 α1 S1 r1 T1 N1 => ?_)
      rw [e2] at r1
      unfold Rep at r1
      obtain ⟨p, vs, rfl, h1, h2⟩ := r1
      exact ⟨p, rfl, ⟨vs, SqL.of (S1.ex.x h1)⟩, k _ F1 H1 α1 S1 T1 N1 (it_list h1 h2)⟩
    · cases e
  · cases e⟩
theorem semI_tup {tl : TE} {a : M} (ha : Sem G E tl a) : SemI G (iTup G.K tl) (iTupl a) := ⟨fun {F H σ ρ α ds ρ1 R} S e k => by
  unfold iTupl at e
  split at e
  · rename_i o ρ' e1
    split at e
    · rename_i ds' e2
      cases e
      refine ha.run S (Post.okEnd e1 fun v F1 H1 α1 S1 r1 T1 N1 => ?_)
      rw [e2] at r1
      unfold Rep at r1
      obtain ⟨p, vs, rfl, h1, h2⟩ := r1
      exact ⟨p, rfl, ⟨vs, SqT.of (S1.ex.x h1)⟩, k _ F1 H1 α1 S1 T1 N1 (it_tup h1 h2)⟩
    · cases e
  · cases e⟩
theorem PostA.okEnd {a : MA} {xs : List AI} {R : List V → Hp → Prop} (e : a ρ = some (.ok xs, ρ1))
    (hk : ∀ vs F1 H1 α1, Ste G F1 H1 σ ρ1 α1 → RepA G F1 σ vs xs → Stp (Own α) F H F1 H1 → New (Own α) H (Own α1) → R vs H1) : PostA G E F H σ α (a ρ) R := by
  rw [e]
  exact fun vs F1 H1 α1 S r T N => hk vs F1 H1 α1 S r T N
theorem RepA.one {vs : List V} {d : D} (h : RepA G F σ vs [.d d]) : ∃ v, vs = [v] ∧ Rep G F v d := by
  obtain ⟨v, ws, rfl, e2, e3⟩ := h
  obtain rfl : ws = [] := e3
  exact ⟨v, rfl, e2⟩
theorem RepA.two {vs : List V} {d e : D} (h : RepA G F σ vs [.d d, .d e]) : ∃ v w, vs = [v, w] ∧ Rep G F v d ∧ Rep G F w e := by
  obtain ⟨v, ws, rfl, e2, e3⟩ := h
  obtain ⟨w, rfl, q⟩ := RepA.one e3
  exact ⟨v, w, rfl, e2, q⟩
theorem Rep.toInt {v : V} {i : Int} (h : Rep G F v (.int i)) : v = .int i := by unfold Rep at h; exact h
theorem semI_range1 {ta : TA} {a : MA} (ha : SemA G E ta a) : SemI G (iRng1 ta) (iRange1 a) := ⟨fun {F H σ ρ α ds ρ1 R} S e k => by
  unfold iRange1 at e
  split at e
  · rename_i j ρ' e1
    split at e
    · rename_i hj
      cases e
      refine ha.run S (PostA.okEnd e1 fun vs F1 H1 α1 S1 r1 T1 N1 => ?_)
      obtain ⟨v, rfl, q⟩ := r1.one
      obtain rfl := q.toInt
      exact ⟨j, rfl, by omega, by omega, k _ F1 H1 α1 S1 T1 N1 it_range⟩
    · cases e
  · cases e⟩
theorem semI_range2 {ta : TA} {a : MA} (ha : SemA G E ta a) : SemI G (iRng2 ta) (iRange2 a) := ⟨fun {F H σ ρ α ds ρ1 R} S e k => by
  unfold iRange2 at e
  split at e
  · rename_i i j ρ' e1
    split at e
    · rename_i hj
      cases e
      refine ha.run S (PostA.okEnd e1 fun vs F1 H1 α1 S1 r1 T1 N1 => ?_)
      obtain ⟨v, w, rfl, q, q'⟩ := r1.two
      obtain rfl := q.toInt
      obtain rfl := q'.toInt
      exact ⟨i, j, rfl, ⟨by omega, by omega, by omega, by omega⟩, k _ F1 H1 α1 S1 T1 N1 it_range⟩
    · cases e
  · cases e⟩
end

/-! ### for, while -/
def forLoop (p : Pat) (b : List Nat → Rho → Option (Rs Fl × Rho)) (pins : List Nat) : List D → Rho → Option (Rs Fl × Rho)
  | [], ρ => some (.ok .nx, ρ)
  | d :: ds, ρ => (bindP pins p d ρ).bind fun ρ1 => match b pins ρ1 with
    | some (.ok .nx, ρ2) => forLoop p b pins ds ρ2
    | some (.ok .ct, ρ2) => forLoop p b pins ds ρ2
    | some (.ok .bk, ρ2) => some (.ok .nx, ρ2)
    | x => x
def sFor (mi : MI) (p : Pat) (b : MS) : MS := fun pins ρ => (mi ρ).bind fun x => forLoop p b pins x.1 x.2
def whileLoop (c : M) (b : MS) (pins : List Nat) : Nat → Rho → Option (Rs Fl × Rho)
  | 0, _ => none
  | n + 1, ρ => bnd (c ρ) fun x ρ1 => match x.frz with
    | .bl true => (match b pins ρ1 with
      | some (.ok .nx, ρ2) => whileLoop c b pins n ρ2
      | some (.ok .ct, ρ2) => whileLoop c b pins n ρ2
      | some (.ok .bk, ρ2) => some (.ok .nx, ρ2)
      | x => x)
    | .bl false => some (.ok .nx, ρ1)
    | _ => none
def sWhile (n : Nat) (c : M) (b : MS) : MS := fun pins ρ => whileLoop c b pins n ρ
section
variable {G : Cn} {E : XK} {t : TS} {b : MS} {g : TG} {p : Pat} {wi : TI} {mi : MI} {tc : TT} {mc : M}
/-- the turn's end: go on with k, or leave -/
theorem PostS.turn {F0 H0 F H : Hp} {σ0 σ : L2.St} {α0 α : Al} {pins : List Nat} {D : Ends} {N : L2.St → Hp → Prop} {r : Option (Rs Fl × Rho)} {k : Rho → Option (Rs Fl × Rho)}
    (T : Stp (Own α0) F0 H0 F H) (M : New (Own α0) H0 (Own α)) (Q : Pin pins σ0 σ)
    (h : PostS G E F0 H0 σ0 α0 pins (match r with
      | some (.ok .nx, ρ2) => k ρ2
      | some (.ok .ct, ρ2) => k ρ2
      | some (.ok .bk, ρ2) => some (.ok .nx, ρ2)
      | x => x) D)
    (hk : ∀ ρ1 σ1 F1 H1 α1, Ste G F1 H1 σ1 ρ1 α1 → Stp (Own α) F H F1 H1 → New (Own α) H (Own α1) → Pin pins σ σ1 → PostS G E F0 H0 σ0 α0 pins (k ρ1) D → N σ1 H1) : PostS G E F H σ α pins r { D with nx := N, ct := N, bk := D.nx } := by
  match r, h with
  | none, h => exact h
  | some (.ok .nx, ρ'), h => exact fun σ' F' H' α' S T N P => hk ρ' σ' F' H' α' S T N P h
  | some (.ok .bk, ρ'), h => exact okS.shift T M Q .nx ρ' h
  | some (.ok .ct, ρ'), h => exact fun σ' F' H' α' S T N P => hk ρ' σ' F' H' α' S T N P h
  | some (.ok (.ret o), ρ'), h => exact okS.shift T M Q (.ret o) ρ' h
  | some (.ex c none, _), h => exact fun F' H' T' => h F' H' (T.trans T' M)
  | some (.ex c (some fs), _), h => exact fun F' H' dd fvs T' d3 d4 => h F' H' dd fvs (T.trans T' M) d3 d4
theorem SemT.toB {F0 H0 F H : Hp} {α0 : Al} {σ : L2.St} {ρ : Rho} {α : Al} {B : Type} {k : O → Rho → Option (Rs B × Rho)} {okQ : B → Rho → Prop} {R : Bool → Hp → Prop} (ht : SemT G E tc mc) (S : Ste G F H σ ρ α)
    (T0 : Stp (Own α0) F0 H0 F H) (N0 : New (Own α0) H0 (Own α)) (h : PostG G E F0 H0 α0 okQ (bnd (mc ρ) k))
    (hk : ∀ o ρ1 b F1 H1 α1, Ste G F1 H1 σ ρ1 α1 → o.frz = .bl b → Stp (Own α) F H F1 H1 → New (Own α) H (Own α1) → PostG G E F0 H0 α0 okQ (k o ρ1) → R b H1)
    (hk0 : ∀ o ρ1, (∀ c, o.frz ≠ .bl c) → PostG G E F0 H0 α0 okQ (k o ρ1) → False) : tc σ H R := by
  refine ht.run S ?_
  match hm : mc ρ, h with
  | none, h => exact h
  | some (.ok o, ρ1), h =>
    exact fun v F1 H1 α1 β S1 r1 T1 M1 N1 => by
      obtain ⟨F2, S2, r2, T2, N3⟩ := S1.freeze r1 T1 M1 N1
      by_cases q : ∃ c, o.frz = .bl c
      · obtain ⟨c, e⟩ := q
        exact ⟨c, frz_bl (H := H) r2 e, hk o ρ1 c F2 H1 α1 S2 e T2 N3 h⟩
      · exact (hk0 o ρ1 (fun c e => q ⟨c, e⟩) h).elim
  | some (.ex c none, _), h => exact fun F' H' T' => h F' H' (T0.trans T' N0)
  | some (.ex c (some fs), _), h => exact fun F' H' dd fvs T' d3 d4 => h F' H' dd fvs (T0.trans T' N0) d3 d4
theorem drop_get {A : Type} {l : List A} {i : Nat} {d : A} (h : l[i]? = some d) : l.drop i = d :: l.drop (i + 1) := by
  obtain ⟨h1, h2⟩ := List.getElem?_eq_some_iff.mp h
  rw [← h2]
  exact List.drop_eq_getElem_cons h1
theorem semS_for (hi : SemI G wi mi) (hg : GSem G g p) (hb : SemS G E t b) : SemS G E (tFor wi g t) (sFor mi p b) := ⟨fun {F H σ ρ α D pins} S h => by
  unfold sFor at h
  cases e : mi ρ with
  | none => rw [e] at h; exact h.elim
  | some x =>
    obtain ⟨ds, ρ1⟩ := x
    rw [e] at h
    refine hi.run S e fun J F1 H1 α1 S1 T1 N1 it => ?_
    refine ⟨fun i m σ' H' => m = ds.length - i ∧ i ≤ ds.length ∧ ∃ F' ρ' α', Ste G F' H' σ' ρ' α' ∧ (Ex F1 F' ∧ Kpz H1 H') ∧ Stp (Own α) F H F' H' ∧ New (Own α) H (Own α') ∧ Pin pins σ σ' ∧ PostS G E F H σ α pins (forLoop p b pins (ds.drop i) ρ') D,
      ⟨ds.length, by simp, Nat.zero_le _, F1, ρ1, α1, S1, ⟨Ex.refl F1, .refl H1⟩, T1, N1, .refl, h⟩, ?_⟩
    rintro i m σ' H' ⟨rfl, hi, F', ρ', α', S', ⟨e1, z1⟩, T', N', P', h'⟩
    obtain ⟨i1, i2, i3⟩ := it i e1 S'.ex z1
    by_cases hlt : i < ds.length
    · refine .inr ⟨i1 hlt, _, fun σ2 H2 n2 => ⟨ds.length - (i + 1), by omega, n2⟩, fun x H'' y => ?_⟩
      obtain ⟨d, hd⟩ : ∃ d, ds[i]? = some d := ⟨ds[i], by simp [hlt]⟩
      obtain ⟨F'', f1, f2, f3, f4, rx⟩ := i3 x H'' d hd y
      have S2 := S'.grow f1 (kpt f2) f3 f4
      have T2 : Stp (Own α) F H F'' H'' := T'.trans (Stp.grow (A := Own α') f1 (kpt f2) f3) N'
      rw [drop_get hd] at h'
      unfold forLoop at h'
      cases e2 : bindP pins p d ρ' with
      | none => rw [e2] at h'; exact h'.elim
      | some ρ2 =>
        rw [e2] at h'
        refine hg S2 rx e2 fun σ2 α2 S3 o3 P3 _ => ?_
        have N3 : New (Own α) H (Own α2) := fun a z => N' a (o3 a z)
        refine hb.run S3 (PostS.turn T2 N3 (P'.trans P3) h' fun ρ3 σ3 F3 H3 α3 S4 T4 N4 P4 h4 => ?_)
        refine ⟨rfl, hlt, F3, ρ3, α3, S4, ⟨(e1.trans f1).trans T4.exF, (z1.trans (.of f2)).trans (T4.kpz S3)⟩, T2.trans T4 N3, New.trans T2 N3 N4, (P'.trans P3).trans P4, h4⟩
    · refine .inl ⟨i2 (by omega), ?_⟩
      rw [List.drop_of_length_le (by omega)] at h'
      exact h' σ' F' H' α' S' T' N' P'⟩
theorem semS_while {n : Nat} (hc : SemT G E tc mc) (hb : SemS G E t b) : SemS G E (tWhile tc t) (sWhile n mc b) := ⟨fun {F H σ ρ α D pins} S h => by
  refine ⟨fun m σ' H' => ∃ F' ρ' α', Ste G F' H' σ' ρ' α' ∧ Stp (Own α) F H F' H' ∧ New (Own α) H (Own α') ∧ Pin pins σ σ' ∧ PostS G E F H σ α pins (whileLoop mc b pins m ρ') D,
    ⟨n, F, ρ, α, S, .refl, .refl, .refl, h⟩, ?_⟩
  rintro m σ' H' ⟨F', ρ', α', S', T', N', P', h'⟩
  cases m with
  | zero => exact h'.elim
  | succ m =>
    unfold whileLoop at h'
    refine hc.toB S' T' N' h' (fun o ρ1 c F1 H1 α1 S1 hb1 T1 N1 h1 => ?_) fun o ρ1 hn h1 => ?_
    · try dsimp only at h1
      rw [hb1] at h1
      have T2 := T'.trans T1 N'
      have N2 := New.trans T' N' N1
      cases c with
      | false => exact h1 σ' F1 H1 α1 S1 T2 N2 P'
      | true =>
        refine ⟨_, fun σ2 H2 n2 => ⟨m, Nat.lt_succ_self m, n2⟩, hb.run S1 (PostS.turn T2 N2 P' h1 fun ρ3 σ3 F3 H3 α3 S4 T4 N4 P4 h4 => ?_)⟩
        exact ⟨F3, ρ3, α3, S4, T2.trans T4 N2, New.trans T2 N2 N4, P'.trans P4, h4⟩
    · try dsimp only at h1
      split at h1
      · rename_i e
        exact hn _ e
      · rename_i e
        exact hn _ e
      · exact h1⟩
end
end VL

namespace VL
open PySem PySem.Spec
open PyProof.Rows L2
open Evl (Ex sz_of)

/-! ### defs -/
abbrev Fn := List O → Option (Res × List O)
def retR (r : Option (Res × List O)) : Option (Res × Rho) := r.map fun x => (x.1, x.2.map some)
/-- a def's promise: from arguments as they are to what fn says -/
def spF (G : Cn) (fn : Fn) (n : Nat) : Sp := fun vs H Q E => vs.length = n ∧ ∃ F os α, Ste G F H (vs.map some) (os.map some) α ∧ Post G E F H (vs.map some) α (retR (fn os)) Q
def fin : List O → Rho → Option (List O)
  | [], _ => some []
  | o :: os, ρ => match o.isOwn, ρ with
    | false, _ :: r => (fin os r).map (o :: ·)
    | true, some o' :: r => (fin os r).map (o' :: ·)
    | _, _ => none
def pinsAux : Nat → List O → List Nat
  | _, [] => []
  | i, o :: os => if o.isOwn then i :: pinsAux (i + 1) os else pinsAux (i + 1) os
def mFn (np N : Nat) (body : MS) : Fn := fun os => if os.length = np ∧ np ≤ N then (match body (pinsAux 0 os) (os.map some ++ List.replicate (N - np) none) with
  | some (.ok .nx, ρ') => (fin os ρ').map fun os' => (.ok (.val .non), os')
  | some (.ok (.ret o), ρ') => (fin os ρ').map fun os' => (.ok o, os')
  | some (.ex c fs, _) => some (.ex c fs, os)
  | _ => none) else none
/-- a def that raises nothing -/
def mFn0 (np N : Nat) (body : MS) : Fn := fun os => match mFn np N body os with
  | some (.ok o, os') => some (.ok o, os')
  | _ => none
theorem pinsAux_mem : ∀ {os : List O} {k j : Nat} {o : O}, os[j]? = some o → o.isOwn = true → k + j ∈ pinsAux k os
  | [], k, j, o, h, _ => by simp at h
  | o' :: os, k, 0, o, h, e => by
    have : o' = o := by simpa using h
    subst this
    unfold pinsAux
    rw [if_pos e]
    exact List.mem_cons_self
  | o' :: os, k, j + 1, o, h, e => by
    have q := pinsAux_mem (k := k + 1) (j := j) (by simpa using h) e
    have e1 : k + (j + 1) = k + 1 + j := by omega
    rw [e1]
    unfold pinsAux
    split
    · exact List.mem_cons_of_mem _ q
    · exact q
theorem fin_get : ∀ {os os' : List O} {ρ : Rho}, fin os ρ = some os' → os'.length = os.length ∧ ∀ (i : Nat) o', os'[i]? = some o' → ∃ o, os[i]? = some o ∧ ((o.isOwn = false ∧ o' = o) ∨ (o.isOwn = true ∧ ρ[i]? = some (some o')))
  | [], os', ρ, h => by
    cases h
    exact ⟨rfl, fun i o' e => by simp at e⟩
  | o :: os, os', ρ, h => by
    unfold fin at h
    split at h
    · rename_i e0
      cases q : fin os _ with
      | none => rw [q] at h; cases h
      | some r =>
        rw [q] at h
        cases h
        obtain ⟨l, g⟩ := fin_get q
        refine ⟨by simp [l], fun i o' e => ?_⟩
        cases i with
        | zero => exact ⟨o, rfl, .inl ⟨e0, by simpa using e.symm⟩⟩
        | succ i =>
          obtain ⟨u, h1, h2⟩ := g i o' (by simpa using e)
          exact ⟨u, by simpa using h1, by simpa using h2⟩
    · rename_i o1 r1 e0
      cases q : fin os _ with
      | none => rw [q] at h; cases h
      | some r =>
        rw [q] at h
        cases h
        obtain ⟨l, g⟩ := fin_get q
        refine ⟨by simp [l], fun i o' e => ?_⟩
        cases i with
        | zero =>
          refine ⟨o, rfl, .inr ⟨e0, ?_⟩⟩
          have : o1 = o' := by simpa using e
          subst this
          rfl
        | succ i =>
          obtain ⟨u, h1, h2⟩ := g i o' (by simpa using e)
          exact ⟨u, by simpa using h1, by simpa using h2⟩
    · cases h
section
variable {G : Cn} {E : XK} {F F1 H H1 : Hp} {σ : L2.St} {ρ : Rho} {α α1 : Al}
theorem map_get {A B : Type} {f : A → B} {l : List A} {i : Nat} {x : B} (h : (l.map f)[i]? = some x) : ∃ y, l[i]? = some y ∧ f y = x := by
  rw [List.getElem?_map] at h
  cases e : l[i]? with
  | none => rw [e] at h; cases h
  | some y =>
    rw [e] at h
    exact ⟨y, rfl, Option.some.inj h⟩
def selA (os : List O) (α : Al) (i : Nat) : List Addr := match os[i]? with
  | some o => (match o.isOwn with | true => α i | false => [])
  | none => []
theorem selA_own {os : List O} {o : O} {i : Nat} (h : os[i]? = some o) (h2 : o.isOwn = true) : selA os α i = α i := by
  unfold selA
  rw [h]
  dsimp only
  rw [h2]
theorem selA_val {os : List O} {o : O} {i : Nat} (h : os[i]? = some o) (h2 : o.isOwn = false) : selA os α i = [] := by
  unfold selA
  rw [h]
  dsimp only
  rw [h2]
theorem selA_none {os : List O} {i : Nat} (h : os[i]? = none) : selA os α i = [] := by
  unfold selA
  rw [h]
theorem selA_mem {os : List O} {a : Addr} {i : Nat} (h : a ∈ selA os α i) : a ∈ α i := by
  unfold selA at h
  split at h
  · split at h
    · exact h
    · cases h
  · cases h
/-- the arguments behind the body -/
theorem Ste.fin {vs : List V} {os os' : List O} {N : Nat} {σ' : L2.St} {ρ' : Rho} {α' : Al} (S0 : Ste G F H (vs.map some) (os.map some) α) (S : Ste G F1 H1 σ' ρ' α') (T : Stp (Own α) F H F1 H1)
    (P : Pin (pinsAux 0 os) (vs.map some ++ List.replicate N none) σ') (h : fin os ρ' = some os') : ∃ α2, Ste G F1 H1 (vs.map some) (os'.map some) α2 ∧ ∀ a, Own α2 a → Own α' a := by
  obtain ⟨l, g⟩ := fin_get h
  have lv : vs.length = os.length := by
    have := S0.len
    simpa using this
  refine ⟨selA os α', ⟨S.ex, by simp [l, lv], fun i o' e => ?_, fun i hi => ?_, fun i j a ne hi hj => S.dis i j a ne (selA_mem hi) (selA_mem hj)⟩, fun a ⟨i, hi⟩ => ⟨i, selA_mem hi⟩⟩
  · obtain ⟨o1, e1, e2⟩ := map_get e
    cases e2
    obtain ⟨o, h1, h2⟩ := g i o' e1
    obtain ⟨v, hv, r⟩ := S0.slot i o (by rw [List.getElem?_map, h1]; rfl)
    obtain ⟨v', hv', q⟩ := map_get hv
    cases q
    refine ⟨v, hv, ?_⟩
    rcases h2 with ⟨h2, rfl⟩ | ⟨h2, h3⟩
    · rw [selA_val h1 h2]
      cases o' with
      | val d => exact ⟨rfl, r.2.mono T.exF⟩
      | _ => cases h2
    · rw [selA_own h1 h2]
      obtain ⟨w, hw, rw'⟩ := S.slot i o' h3
      have hp := P i (by have := pinsAux_mem (k := 0) h1 h2; rwa [Nat.zero_add] at this)
      have hil : i < vs.length := (List.getElem?_eq_some_iff.mp hv').1
      rw [hw, List.getElem?_append_left (by rw [List.length_map]; exact hil), hv] at hp
      cases hp
      exact rw'
  · cases e : os[i]? with
    | none => exact selA_none e
    | some o =>
      have hil : i < os'.length := by rw [l]; exact (List.getElem?_eq_some_iff.mp e).1
      exact absurd (by rw [List.getElem?_map, List.getElem?_eq_getElem hil]; rfl) (hi os'[i])
theorem Ste.start {vs : List V} {os : List O} {N : Nat} (S : Ste G F H (vs.map some) (os.map some) α) : Ste G F H (vs.map some ++ List.replicate N none) (os.map some ++ List.replicate N none) α where
  ex := S.ex
  len := by
    have := S.len
    simp at this ⊢
    exact this
  slot := fun i o e => by
    have hl : i < (os.map some).length := by
      refine Nat.lt_of_not_le fun hle => ?_
      rw [List.getElem?_append_right hle, List.getElem?_replicate] at e
      split at e
      · cases e
      · cases e
    rw [List.getElem?_append_left hl] at e
    obtain ⟨v, h1, r⟩ := S.slot i o e
    exact ⟨v, by rw [List.getElem?_append_left (by rw [S.len]; exact hl)]; exact h1, r⟩
  off := fun i h => S.off i fun o e => h o (by rw [List.getElem?_append_left (List.getElem?_eq_some_iff.mp e).1]; exact e)
  dis := S.dis
variable {P : Program} {w : World} {K : PySem.W.Frag} {mg : Str → Option Value} {base : Heap} {cl : Nat → Addr}
theorem body_run {t : TS} {m : MS} {vs : List V} {os : List O} {np N : Nat} {Q : VK} (hm : SemS G E t m) (S : Ste G F H (vs.map some) (os.map some) α) (hv : vs.length = np) (h : Post G E F H (vs.map some) α (retR (mFn np N m os)) Q) :
    t { nx := fun _ H' => Q .non H', rt := Q } (vs.map some ++ List.replicate (N - np) none) H := by
  unfold mFn at h
  split at h
  · rename_i hl
    refine hm.run (pins := pinsAux 0 os) S.start ?_
    match e : m (pinsAux 0 os) (os.map some ++ List.replicate (N - np) none), h with
    | none, h => exact h
    | some (.ok .nx, ρ'), h =>
      intro σ' F' H' α' S' T' N' P'
      try dsimp only at h
      cases q : fin os ρ' with
      | none => rw [q] at h; exact h.elim
      | some os' =>
        rw [q] at h
        obtain ⟨α2, S2, o2⟩ := Ste.fin S S' T' P' q
        exact h .non F' H' α2 [] S2 ⟨rfl, Rep.ofNon⟩ T' (fun _ z => nomatch z) fun a z => by
          rcases z with z | z
          · exact N' a (o2 a z)
          · cases z
    | some (.ok (.ret o), ρ'), h =>
      intro v σ' F' H' α' β S' R' T' M' N' P'
      try dsimp only at h
      cases q : fin os ρ' with
      | none => rw [q] at h; exact h.elim
      | some os' =>
        rw [q] at h
        obtain ⟨α2, S2, o2⟩ := Ste.fin S S' T' P' q
        exact h v F' H' α2 β S2 R' T' (fun a z z2 => M' a z (o2 a z2)) fun a z => by
          rcases z with z | z
          · exact N' a (.inl (o2 a z))
          · exact N' a (.inr z)
    | some (.ok .bk, ρ'), h => exact h.elim
    | some (.ok .ct, ρ'), h => exact h.elim
    | some (.ex c none, ρ'), h => exact h
    | some (.ex c (some fs), ρ'), h => exact h
  · exact h.elim
/-- THE RULE for a def that raises nothing -/
theorem fn_ok0 {x qual : Str} {st : Stmt} {f : Addr} {fd : FuncData} {Ns ps : List Str} {k np : Nat} {m : MS} (Fu : L2.Fun K x qual st f fd) (S : FnScope Ns ps (defScope st)) (hp : ps.length = np) (hN : np ≤ Ns.length)
    (hbody : ∀ (cdv : Value) (A : Around) (outer : List Env) (s : Shared) (H : Hp) (E : XK), Room k (A.deeper (envOfC qual (defScope st) s.heap.objs.size f cdv)) →
      ∃ t, PSs (cxOf CX0 P w K mg base Ns qual (defScope st) f cdv A outer s H E).nox (defBody st) t ∧ SemS ⟨K, cl, w⟩ E0 t m) : FnOk P w K mg base CX0 (k + 1) f fd ps (spF ⟨K, cl, w⟩ (mFn0 np Ns.length m) np) := by
  refine Fu.ok S (fun vs H Q E h => ?_) (fun cdv A outer s H vs Q E hr h => ?_)
  · exact h.1.trans hp.symm
  · obtain ⟨hv, F, os, α, S0, h⟩ := h
    obtain ⟨t, ht, hm⟩ := hbody cdv A outer s H E hr
    refine ⟨t, ht, ?_⟩
    have e : L2.start Ns vs = vs.map some ++ List.replicate (Ns.length - np) none := by
      unfold L2.start
      rw [hv]
    rw [e]
    refine body_run (Q := Q) hm S0 hv (np := np) (N := Ns.length) ?_
    unfold mFn0 at h
    match q : mFn np Ns.length m os, h with
    | none, h => exact h
    | some (.ok o, os'), h => exact h
    | some (.ex c f, os'), h => exact h.elim
end
end VL

namespace VL
open PySem PySem.Spec
open PyProof.Rows L2
open Evl (Ex sz_of)

/-! ### calls -/
def dsOnly : List AI → Option (List D)
  | [] => some []
  | .d x :: r => (dsOnly r).map (x :: ·)
  | .io _ :: _ => none
def splitIo : List AI → Option (List D × Option (Nat × List D))
  | [] => some ([], none)
  | .d x :: r => (splitIo r).map fun p => (x :: p.1, p.2)
  | .io i :: r => (dsOnly r).map fun post => ([], some (i, post))
def mCall (fn : Fn) (ms : MA) : M := fun ρ => bnd (ms ρ) fun ais ρ1 => match splitIo ais with
  | none => none
  | some (ds, none) => (match fn (ds.map .val) with
    | some (r, _) => some (r, ρ1)
    | none => none)
  | some (pre, some (i, post)) => (match ρ1[i]? with
    | some (some o) => (match fn (pre.map .val ++ o :: post.map .val) with
      | none => none
      | some (.ok r, os') => (match os'[pre.length]? with
        | some o' => some (.ok r, ρ1.set i (some o'))
        | none => none)
      | some (.ex c fs, _) => some (.ex c fs, ρ1))
    | _ => none)
section
variable {G : Cn} {E : XK} {F F1 H H1 : Hp} {σ : L2.St} {ρ ρ1 : Rho} {α α1 : Al}
theorem dsOnly_r : ∀ {vs : List V} {xs : List AI} {ds : List D}, RepA G F σ vs xs → dsOnly xs = some ds → Reps G F vs ds
  | _, [], ds, h, e => by
    cases e
    rw [show _ = [] from h]
    exact Reps.nil
  | _, .d x :: r, ds, h, e => by
    obtain ⟨v, ws, rfl, e2, e3⟩ := h
    unfold dsOnly at e
    cases q : dsOnly r with
    | none => rw [q] at e; cases e
    | some es =>
      rw [q] at e
      cases e
      exact Reps.cons e2 (dsOnly_r e3 q)
  | _, .io i :: r, ds, h, e => by cases e
theorem split_r : ∀ {vs : List V} {xs : List AI} {pre : List D} {t : Option (Nat × List D)}, RepA G F σ vs xs → splitIo xs = some (pre, t) →
    match t with
    | none => Reps G F vs pre
    | some (i, post) => ∃ ws v us, vs = ws ++ v :: us ∧ Reps G F ws pre ∧ σ[i]? = some (some v) ∧ Reps G F us post
  | _, [], pre, t, h, e => by
    cases e
    rw [show _ = [] from h]
    exact Reps.nil
  | _, .d x :: r, pre, t, h, e => by
    obtain ⟨v, ws, rfl, e2, e3⟩ := h
    unfold splitIo at e
    cases q : splitIo r with
    | none => rw [q] at e; cases e
    | some p =>
      obtain ⟨p1, p2⟩ := p
      rw [q] at e
      cases e
      have ih := split_r e3 q
      match p2, ih with
      | none, ih => exact Reps.cons e2 ih
      | some (i, post), ih =>
        obtain ⟨ws', v', us, rfl, h1, h2, h3⟩ := ih
        exact ⟨v :: ws', v', us, rfl, Reps.cons e2 h1, h2, h3⟩
  | _, .io i :: r, pre, t, h, e => by
    obtain ⟨v, ws, rfl, e2, e3⟩ := h
    unfold splitIo at e
    cases q : dsOnly r with
    | none => rw [q] at e; cases e
    | some post =>
      rw [q] at e
      cases e
      exact ⟨[], v, ws, rfl, Reps.nil, e2, dsOnly_r e3 q⟩
/-- arguments that are data -/
theorem Ste.args {vs : List V} {ds : List D} (ex : Lx F H) (h : Reps G F vs ds) : Ste G F H (vs.map some) ((ds.map O.val).map some) (fun _ => []) where
  ex := ex
  len := by simp [h.length]
  slot := fun i o e => by
    obtain ⟨o1, e1, e2⟩ := map_get e
    cases e2
    obtain ⟨d, h1, h2⟩ := map_get e1
    subst h2
    obtain ⟨v, hv, r⟩ := h.get h1
    exact ⟨v, by rw [List.getElem?_map, hv]; rfl, rfl, r⟩
  off := fun _ _ => rfl
  dis := fun _ _ _ _ h => nomatch h
/-- .. one of them stands in a slot -/
theorem Ste.args1 {ws us : List V} {v : V} {pre post : List D} {i : Nat} {o : O} (S : Ste G F H σ ρ α) (h1 : Reps G F ws pre) (hv : σ[i]? = some (some v)) (ho : ρ[i]? = some (some o)) (h2 : Reps G F us post) :
    Ste G F H ((ws ++ v :: us).map some) ((pre.map O.val ++ o :: post.map O.val).map some) (fun j => if j = pre.length then α i else []) where
  ex := S.ex
  len := by simp [h1.length, h2.length]
  slot := fun j x e => by
    obtain ⟨o1, e1, e2⟩ := map_get e
    cases e2
    have lw := h1.length
    rcases Nat.lt_trichotomy j pre.length with hj | hj | hj
    · rw [List.getElem?_append_left (by simpa using hj)] at e1
      obtain ⟨d, q1, q2⟩ := map_get e1
      subst q2
      obtain ⟨w, hw, r⟩ := h1.get q1
      refine ⟨w, by rw [List.getElem?_map, List.getElem?_append_left (by omega), hw]; rfl, ?_⟩
      rw [if_neg (by omega)]
      exact ⟨rfl, r⟩
    · subst hj
      rw [List.getElem?_append_right (by simp)] at e1
      have e1' : o = x := by simpa using e1
      subst e1'
      obtain ⟨w, hw, r⟩ := S.slot i o ho
      rw [hv] at hw
      cases hw
      refine ⟨v, by rw [List.getElem?_map, List.getElem?_append_right (by omega), lw]; simp, ?_⟩
      rw [if_pos rfl]
      exact r
    · rw [List.getElem?_append_right (by simp; omega)] at e1
      have e3 : j - (pre.map O.val).length = (j - pre.length - 1) + 1 := by simp; omega
      rw [e3] at e1
      have e1' : (post.map O.val)[j - pre.length - 1]? = some x := by simpa using e1
      obtain ⟨d, q1, q2⟩ := map_get e1'
      subst q2
      obtain ⟨w, hw, r⟩ := h2.get q1
      have e4 : j - ws.length = (j - pre.length - 1) + 1 := by omega
      refine ⟨w, by rw [List.getElem?_map, List.getElem?_append_right (by omega), e4]; simp [hw], ?_⟩
      rw [if_neg (by omega)]
      exact ⟨rfl, r⟩
  off := fun j h => by
    by_cases hj : j = pre.length
    · subst hj
      exact absurd (by simp) (h o)
    · rw [if_neg hj]
  dis := fun j k a ne hj hk => by
    split at hj
    · split at hk
      · omega
      · cases hk
    · cases hj
theorem Stp.weak {A B : Addr → Prop} (s : Stp A F H F1 H1) (h : ∀ a, A a → B a) : Stp B F H F1 H1 :=
  ⟨s.exF, fun b o e n => s.keep b o e fun z => n (h b z), fun b o e => (s.newF b o e).elim .inl fun z => z.elim (fun y => .inr (.inl y)) fun y => .inr (.inr (h b y))⟩
variable {fn : Fn} {n : Nat} {t : TA} {ms : MA}
theorem sem_callE {E1 : XK} (hE : E1 = E ∨ ∀ os c f os', fn os ≠ some (.ex c f, os')) (hl : ∀ os r, fn os = some r → os.length = n) (ha : SemA G E t ms) : Sem G E (tCall (spF G fn n) [] E1 t) (mCall fn ms) := ⟨fun {F H σ ρ α Q} S h =>
  ha.run S (PostA.to h fun xs ρ1 vs F1 H1 α1 S1 r1 T1 N1 h1 => by
    rw [List.append_nil]
    have h2 := Post.shift T1 N1 h1
    cases e : splitIo xs with
    | none => rw [e] at h2; exact h2.elim
    | some p =>
      obtain ⟨pre, tl⟩ := p
      rw [e] at h2
      have sr := split_r r1 e
      match tl, sr, h2 with
      | none, sr, h2 =>
        try dsimp only at h2
        match q : fn (pre.map O.val), h2 with
        | none, h2 => exact h2.elim
        | some (r, os'), h2 =>
          refine ⟨by rw [sr.length, ← hl _ _ q, List.length_map], F1, pre.map O.val, fun _ => [], Ste.args S1.ex sr, ?_⟩
          rw [q]
          have ow : ∀ a, ¬ Own (fun _ => ([] : List Addr)) a := fun a ⟨_, z⟩ => nomatch z
          match r, h2 with
          | .ok o, h2 =>
            exact fun v F' H' α' β S' R' T' M' N' => by
              have kp : Kpt F1 H1 H' := fun b u hb => T'.keep b u hb (ow b)
              have nf : ∀ b u, F' b = some u → F1 b = some u ∨ H1 b = none := fun b u hb => (T'.newF b u hb).elim .inl fun z => z.elim .inr fun y => (ow b y).elim
              exact h2 v F' H' α1 β (S1.grow T'.exF kp nf S'.ex) R' (T'.weak fun a z => (ow a z).elim) (fun a ha z => by
                rcases N' a (.inr ha) with y | y
                · exact ow a y
                · exact S1.notown y z) fun a z => by
                rcases z with z | z
                · exact .inl z
                · rcases N' a (.inr z) with y | y
                  · exact (ow a y).elim
                  · exact .inr y
          | .ex c none, h2 =>
            rcases hE with rfl | hE
            · exact fun F' H' T' => h2 F' H' (T'.weak fun a z => (ow a z).elim)
            · exact (hE _ _ _ _ q).elim
          | .ex c (some fs), h2 =>
            rcases hE with rfl | hE
            · exact fun F' H' dd fvs T' => h2 F' H' dd fvs (T'.weak fun a z => (ow a z).elim)
            · exact (hE _ _ _ _ q).elim
      | some (i, post), sr, h2 =>
        try dsimp only at h2 sr
        obtain ⟨ws, v, us, rfl, s1, s2, s3⟩ := sr
        match q0 : ρ1[i]?, h2 with
        | none, h2 => exact h2.elim
        | some none, h2 => exact h2.elim
        | some (some o), h2 =>
          try dsimp only at h2
          match q : fn (pre.map O.val ++ o :: post.map O.val), h2 with
          | none, h2 => exact h2.elim
          | some (r, os'), h2 =>
            have S2 := Ste.args1 S1 s1 s2 q0 s3
            refine ⟨by have := hl _ _ q; rw [← this]; simp [s1.length, s3.length], F1, pre.map O.val ++ o :: post.map O.val, _, S2, ?_⟩
            rw [q]
            have ow : ∀ a, Own (fun j => if j = pre.length then α1 i else []) a → a ∈ α1 i := fun a ⟨j, z⟩ => by
              have z' : a ∈ (if j = pre.length then α1 i else []) := z
              split at z'
              · exact z'
              · cases z'
            have ow1 : ∀ a, Own (fun j => if j = pre.length then α1 i else []) a → Own α1 a := fun a z => ⟨i, ow a z⟩
            match r, h2 with
            | .ex c none, h2 =>
              rcases hE with rfl | hE
              · exact fun F' H' T' => h2 F' H' (T'.weak ow1)
              · exact (hE _ _ _ _ q).elim
            | .ex c (some fs), h2 =>
              rcases hE with rfl | hE
              · exact fun F' H' dd fvs T' => h2 F' H' dd fvs (T'.weak ow1)
              · exact (hE _ _ _ _ q).elim
            | .ok ro, h2 =>
              try dsimp only at h2
              match q1 : os'[pre.length]?, h2 with
              | none, h2 => exact h2.elim
              | some o', h2 =>
                exact fun v' F' H' α' β S' R' T' M' N' => by
                  have hsl : (os'.map some)[pre.length]? = some (some o') := by rw [List.getElem?_map, q1]; rfl
                  obtain ⟨w, hw, rw'⟩ := S'.slot pre.length o' hsl
                  have hw' : ((ws ++ v :: us).map some)[pre.length]? = some (some v) := by
                    rw [List.getElem?_map, List.getElem?_append_right (by rw [s1.length]; exact Nat.le_refl _), s1.length]
                    simp
                  rw [hw'] at hw
                  cases hw
                  have hi : i < ρ1.length := (List.getElem?_eq_some_iff.mp q0).1
                  -- what is not the argument's own stays
                  have kp : ∀ b u, H1 b = some u → b ∉ α1 i → F1 b = none → H' b = some u := fun b u hb nb f0 => T'.kept hb (fun z => nb (ow b z)) (.inl f0)
                  have nf : ∀ b u, F' b = some u → F1 b = some u ∨ H1 b = none ∨ b ∈ α1 i := fun b u hb => (T'.newF b u hb).elim .inl fun z => z.elim (fun y => .inr (.inl y)) fun y => .inr (.inr (ow b y))
                  have newA : ∀ a, a ∈ α' pre.length → a ∈ α1 i ∨ H1 a = none := fun a ha => (N' a (.inl ⟨_, ha⟩)).elim (fun z => .inl (ow a z)) .inr
                  have Sc : Ste G F' H' σ (ρ1.set i (some o')) (Al.set α1 i (α' pre.length)) := ⟨S'.ex, by rw [List.length_set]; exact S1.len, fun j x e => by
                      by_cases hj : j = i
                      · subst hj
                        rw [List.getElem?_set_self hi] at e
                        cases e
                        exact ⟨v, s2, by rw [Al.set_eq]; exact rw'⟩
                      · rw [List.getElem?_set_ne (Ne.symm hj)] at e
                        obtain ⟨u, hu, ru⟩ := S1.slot j x e
                        refine ⟨u, hu, ?_⟩
                        rw [Al.set_ne hj]
                        refine ru.move T'.exF (fun b hb => ?_) fun b hb y hy => kp b y hy (fun z => S1.dis j i b hj hb z) (ru.mem b hb).1
                        obtain ⟨f0, y, hy⟩ := ru.mem b hb
                        cases q5 : F' b with
                        | none => rfl
                        | some y' =>
                          rcases nf b y' q5 with z | z | z
                          · rw [f0] at z; cases z
                          · rw [hy] at z; cases z
                          · exact absurd z (S1.dis j i b hj hb), fun j hj => by
                      by_cases q6 : j = i
                      · subst q6
                        exact absurd (List.getElem?_set_self hi) (hj o')
                      · rw [Al.set_ne q6]
                        exact S1.off j fun x e => hj x (by rw [List.getElem?_set_ne (Ne.symm q6)]; exact e), fun j k a ne hj hk => by
                      have nx : ∀ m, m ≠ i → a ∈ α1 m → a ∉ α' pre.length := fun m hm ham hap => by
                        rcases newA a hap with z | z
                        · exact S1.dis m i a hm ham z
                        · exact S1.notown z ⟨m, ham⟩
                      by_cases q6 : j = i
                      · subst q6
                        rw [Al.set_eq] at hj
                        rw [Al.set_ne (Ne.symm ne)] at hk
                        exact nx k (Ne.symm ne) hk hj
                      · rw [Al.set_ne q6] at hj
                        by_cases q7 : k = i
                        · subst q7
                          rw [Al.set_eq] at hk
                          exact nx j q6 hj hk
                        · rw [Al.set_ne q7] at hk
                          exact S1.dis j k a ne hj hk⟩
                  refine h2 v' F' H' _ β Sc R' (T'.weak ow1) (fun a ha z => ?_) fun a z => ?_
                  · rcases N' a (.inr ha) with y | y
                    · obtain ⟨k, hk⟩ := z
                      by_cases q7 : k = i
                      · subst q7
                        rw [Al.set_eq] at hk
                        exact M' a ha ⟨_, hk⟩
                      · rw [Al.set_ne q7] at hk
                        exact S1.dis k i a q7 hk (ow a y)
                    · obtain ⟨k, hk⟩ := z
                      by_cases q7 : k = i
                      · subst q7
                        rw [Al.set_eq] at hk
                        exact M' a ha ⟨_, hk⟩
                      · rw [Al.set_ne q7] at hk
                        exact S1.notown y ⟨k, hk⟩
                  · rcases z with z | z
                    · rcases Al.own_set z with y | y
                      · exact .inl y
                      · exact (newA a y).elim (fun y => .inl ⟨i, y⟩) .inr
                    · exact (N' a (.inr z)).elim (fun y => .inl (ow1 a y)) .inr)⟩
theorem sem_call (hl : ∀ os r, fn os = some r → os.length = n) (ha : SemA G E t ms) : Sem G E (tCall (spF G fn n) [] E t) (mCall fn ms) := sem_callE (.inl rfl) hl ha
theorem mFn_len {np N : Nat} {body : MS} : ∀ os r, mFn np N body os = some r → os.length = np := fun os r h => by
  unfold mFn at h
  split at h
  · rename_i hl
    exact hl.1
  · cases h
theorem mFn0_len {np N : Nat} {body : MS} : ∀ os r, mFn0 np N body os = some r → os.length = np := fun os r h => by
  unfold mFn0 at h
  cases e : mFn np N body os with
  | none => rw [e] at h; cases h
  | some q => exact mFn_len os q e
end
end VL

namespace VL
open PySem PySem.Spec
open PyProof.Rows L2
open Evl (Ex sz_of)

/-! ### comprehensions -/
def wipeR (ρ : Rho) : List Nat → Rho
  | [] => ρ
  | v :: vs => (wipeR ρ vs).set v none
def clean (vs : List Nat) (ρ : Rho) : Bool := vs.all fun j => match ρ[j]? with
  | some none => true
  | _ => false
def lcLoop (vs : List Nat) (p : Pat) (mt me : M) : List D → Rho → List D → Option (Res × Rho)
  | [], ρ, acc => some (.ok (.lst acc), ρ)
  | d :: ds, ρ, acc => match bindP [] p d ρ with
    | none => none
    | some ρ1 => (match mt ρ1 with
      | some (.ok b, ρ2) => (match b.frz with
        | .bl true => (match me ρ2 with
          | some (.ok o, ρ3) => lcLoop vs p mt me ds (wipeR ρ3 vs) (acc ++ [o.frz])
          | _ => none)
        | .bl false => lcLoop vs p mt me ds (wipeR ρ2 vs) acc
        | _ => none)
      | _ => none)
def mLc (mi : MI) (vs : List Nat) (p : Pat) (mt me : M) : M := fun ρ => match mi ρ with
  | some (ds, ρ1) => if clean vs ρ1 = true ∧ ds.length ≤ 100000 then lcLoop vs p mt me ds ρ1 [] else none
  | none => none
def mYes : M := mC (.bl true)
section
variable {G : Cn} {E E1 E2 : XK} {F F1 F2 H H1 H2 : Hp} {σ σ1 : L2.St} {ρ ρ1 : Rho} {α α1 : Al}
theorem semT_yes : SemT G E tYes mYes := ⟨fun S h => okV_bl S h⟩
theorem wipeR_len : ∀ vs : List Nat, (wipeR ρ vs).length = ρ.length
  | [] => rfl
  | v :: vs => by
    unfold wipeR
    rw [List.length_set, wipeR_len vs]
theorem wipe_out {i : Nat} : ∀ {vs : List Nat}, i ∉ vs → (wipe σ vs)[i]? = σ[i]?
  | [], _ => rfl
  | v :: vs, h => by
    rw [List.mem_cons, not_or] at h
    unfold wipe
    rw [List.getElem?_set_ne (Ne.symm h.1)]
    exact wipe_out h.2
theorem wipeR_out {i : Nat} : ∀ {vs : List Nat}, i ∉ vs → (wipeR ρ vs)[i]? = ρ[i]?
  | [], _ => rfl
  | v :: vs, h => by
    rw [List.mem_cons, not_or] at h
    unfold wipeR
    rw [List.getElem?_set_ne (Ne.symm h.1)]
    exact wipeR_out h.2
theorem wipe_in {i : Nat} : ∀ {vs : List Nat}, i ∈ vs → i < σ.length → (wipe σ vs)[i]? = some none
  | [], h, _ => nomatch h
  | v :: vs, h, hl => by
    unfold wipe
    by_cases e : v = i
    · subst e
      rw [List.getElem?_set_self (by rw [wipe_length]; exact hl)]
    · rw [List.getElem?_set_ne e]
      exact wipe_in ((List.mem_cons.mp h).resolve_left (Ne.symm e)) hl
theorem wipeR_in {i : Nat} : ∀ {vs : List Nat}, i ∈ vs → ∀ o, (wipeR ρ vs)[i]? ≠ some (some o)
  | [], h, _ => nomatch h
  | v :: vs, h, o => by
    unfold wipeR
    by_cases e : v = i
    · subst e
      intro q
      by_cases hl : v < (wipeR ρ vs).length
      · rw [List.getElem?_set_self hl] at q; cases q
      · rw [List.getElem?_eq_none_iff.mpr (by rw [List.length_set]; omega)] at q; cases q
    · rw [List.getElem?_set_ne e]
      exact wipeR_in ((List.mem_cons.mp h).resolve_left (Ne.symm e)) o
theorem wipe_same {vs : List Nat} (hl : σ1.length = σ.length) (h : ∀ j, j ∉ vs → σ1[j]? = σ[j]?) : wipe σ1 vs = wipe σ vs := by
  apply List.ext_getElem?
  intro i
  by_cases hi : i ∈ vs
  · by_cases h1 : i < σ.length
    · rw [wipe_in hi h1, wipe_in hi (by omega)]
    · rw [List.getElem?_eq_none_iff.mpr (by rw [wipe_length]; omega), List.getElem?_eq_none_iff.mpr (by rw [wipe_length]; omega)]
  · rw [wipe_out hi, wipe_out hi]
    exact h i hi
/-- slots forgotten -/
theorem Ste.wipe (S : Ste G F H σ ρ α) (vs : List Nat) : ∃ α2, Ste G F H (L2.wipe σ vs) (wipeR ρ vs) α2 ∧ ∀ a, Own α2 a → Own α a := by
  refine ⟨fun i => if i ∈ vs then [] else α i, ⟨S.ex, by rw [wipe_length, wipeR_len]; exact S.len, fun i o e => ?_, fun i h => ?_, fun i j a ne hi hj => ?_⟩, fun a ⟨i, hi⟩ => ?_⟩
  · by_cases hi : i ∈ vs
    · exact absurd e (wipeR_in hi o)
    · rw [wipeR_out hi] at e
      obtain ⟨v, h1, r⟩ := S.slot i o e
      exact ⟨v, by rw [wipe_out hi]; exact h1, by rw [if_neg hi]; exact r⟩
  · by_cases hi : i ∈ vs
    · exact if_pos hi
    · show (if i ∈ vs then [] else α i) = []
      rw [if_neg hi]
      exact S.off i fun o e => h o (by rw [wipeR_out hi]; exact e)
  · have hi' : a ∈ (if i ∈ vs then [] else α i) := hi
    have hj' : a ∈ (if j ∈ vs then [] else α j) := hj
    split at hi'
    · cases hi'
    · split at hj'
      · cases hj'
      · exact S.dis i j a ne hi' hj'
  · have hi' : a ∈ (if i ∈ vs then [] else α i) := hi
    split at hi'
    · cases hi'
    · exact ⟨i, hi'⟩
theorem clean_mem {vs : List Nat} (h : clean vs ρ = true) {j : Nat} (hj : j ∈ vs) : ρ[j]? = some none := by
  unfold clean at h
  have q := List.all_eq_true.mp h j hj
  split at q
  · assumption
  · cases q
/-- where the slots hold nothing, forgetting them is nothing -/
theorem Ste.wiped (S : Ste G F H σ ρ α) {vs : List Nat} (h : ∀ j ∈ vs, ∀ o, ρ[j]? ≠ some (some o)) : Ste G F H (L2.wipe σ vs) ρ α := ⟨S.ex, by rw [wipe_length]; exact S.len, fun i o e => by
    obtain ⟨v, h1, r⟩ := S.slot i o e
    exact ⟨v, by rw [wipe_out fun hi => h i hi o e]; exact h1, r⟩, S.off, S.dis⟩
theorem Ste.unwiped {vs : List Nat} (S : Ste G F H (L2.wipe σ vs) ρ α) : Ste G F H σ ρ α := ⟨S.ex, by have := S.len; rwa [wipe_length] at this, fun i o e => by
    obtain ⟨v, h1, r⟩ := S.slot i o e
    exact ⟨v, (wipe_some h1).1, r⟩, S.off, S.dis⟩
theorem Ste.resig {σ' : L2.St} (S : Ste G F H σ ρ α) (e : σ = σ') : Ste G F H σ' ρ α := e ▸ S
variable {wi : TI} {mi : MI} {g : TG} {p : Pat} {tt : TT} {mt me : M} {te : TE}
/-- the list that is made, beside the state -/
structure Pend (G : Cn) (F H : Hp) (α : Al) (Dl : Addr) (ds : List D) : Prop where
  fF : F Dl = none
  no : ¬ Own α Dl
  at' : ∃ vs, H Dl = some (.lst vs) ∧ Reps G F vs ds
theorem Pend.step {Dl : Addr} {ds : List D} (q : Pend G F H α Dl ds) (T : Stp (Own α) F H F1 H1) (N : New (Own α) H (Own α1)) : Pend G F1 H1 α1 Dl ds := by
  obtain ⟨vs, h1, h2⟩ := q.at'
  refine ⟨?_, fun z => ?_, vs, T.kept h1 q.no (.inr rfl), h2.mono T.exF⟩
  · cases e : F1 Dl with
    | none => rfl
    | some u =>
      rcases T.newF Dl u e with z | z | z
      · rw [q.fF] at z; cases z
      · rw [h1] at z; cases z
      · exact absurd z q.no
  · rcases N Dl z with y | y
    · exact q.no y
    · rw [h1] at y; cases y
/-- the list gets one more item -/
theorem Ste.grown {Dl : Addr} {ds : List D} {d : D} {v : V} (S : Ste G F H σ ρ α) (q : Pend G F H α Dl ds) (r : Rep G F v d) :
    ∃ vs, H Dl = some (.lst vs) ∧ vs.length = ds.length ∧ Ste G F (upd H Dl (.lst (vs ++ [v]))) σ ρ α ∧ Pend G F (upd H Dl (.lst (vs ++ [v]))) α Dl (ds ++ [d]) := by
  obtain ⟨vs, h1, h2⟩ := q.at'
  refine ⟨vs, h1, h2.length, ⟨S.ex.mut q.fF, S.len, fun i o e => ?_, S.off, S.dis⟩, q.fF, q.no, _, upd_same, h2.append (Reps.one r)⟩
  obtain ⟨u, h3, r3⟩ := S.slot i o e
  refine ⟨u, h3, r3.move (Ex.refl F) (fun b hb => (r3.mem b hb).1) fun b hb y hy => ?_⟩
  rw [upd_ne (fun z => q.no ⟨i, by rw [← z]; exact hb⟩)]
  exact hy
theorem sem_lc {vs : List Nat} (hi : SemI G wi mi) (hg : GSem G g p) (ht : SemT G E1 tt mt) (he : Sem G E2 te me) (hp : ∀ j ∈ p.slots, j ∈ vs) : Sem G E (tLc wi g tt te vs) (mLc mi vs p mt me) := ⟨fun {F H σ ρ α Q} S h => by
  unfold mLc at h
  cases e : mi ρ with
  | none => rw [e] at h; exact h.elim
  | some x =>
    obtain ⟨ds, ρ1⟩ := x
    rw [e] at h
    try dsimp only at h
    split at h
    · rename_i hc
      obtain ⟨hcl, hlen⟩ := hc
      refine hi.run S e fun J F1 H1 α1 S1 T1 N1 it => ?_
      intro Dl hD
      have S1' : Ste G F1 (upd H1 Dl (.lst [])) (L2.wipe σ vs) ρ1 α1 := (S1.put hD).wiped fun j hj o q => by
        rw [clean_mem hcl hj] at q
        cases q
      have T1' : Stp (Own α) F H F1 (upd H1 Dl (.lst [])) := T1.trans (Ste.putStp hD (A := Own α1)) N1
      let A : Al → Addr → Prop := fun β a => Own β a ∨ a = Dl
      have wk : ∀ {β : Al} {Fa Ha Fb Hb : Hp}, Stp (Own β) Fa Ha Fb Hb → Stp (A β) Fa Ha Fb Hb := fun s => s.weak fun a z => .inl z
      have nw : ∀ {β γ : Al} {Ha : Hp}, New (Own β) Ha (Own γ) → New (A β) Ha (A γ) := fun n a z => z.elim (fun y => (n a y).elim (fun x => .inl (.inl x)) .inr) fun y => .inl (.inr y)
      refine ⟨fun i m H' => m = ds.length - i ∧ i ≤ ds.length ∧ ∃ F' ρ' α' acc, Ste G F' H' (L2.wipe σ vs) ρ' α' ∧ Pend G F' H' α' Dl acc ∧ acc.length ≤ i ∧ Ex F1 F' ∧ Stp (A α1) F1 (upd H1 Dl (.lst [])) F' H' ∧ New (A α1) (upd H1 Dl (.lst [])) (A α') ∧
          PostG G E F H α (okV G F H σ α Q) (lcLoop vs p mt me (ds.drop i) ρ' acc),
        ⟨ds.length, by simp, Nat.zero_le _, F1, ρ1, α1, [], S1', ⟨S1.fresh hD, S1.notown hD, [], upd_same, Reps.nil⟩, Nat.le_refl _, Ex.refl F1, .refl, .refl, h⟩, ?_⟩
      rintro i m H' ⟨rfl, hi', F', ρ', α', acc, S', q', la, e1, T', N', h'⟩
      have z1 : Kpz H1 H' := (Kpz.of (Ex.new hD)).trans (T'.kpzA fun a od u e z => z.elim (S1'.nofrz a od u e) fun y => by rw [y, upd_same] at e; cases e)
      obtain ⟨i1, i2, i3⟩ := it i e1 S'.ex z1
      by_cases hlt : i < ds.length
      · refine .inr ⟨i1 hlt, _, fun H2 n2 => ⟨ds.length - (i + 1), by omega, n2⟩, fun x H'' y => ?_⟩
        obtain ⟨d, hd⟩ : ∃ d, ds[i]? = some d := ⟨ds[i], by simp [hlt]⟩
        obtain ⟨F'', f1, f2, f3, f4, rx⟩ := i3 x H'' d hd y
        have S2 := S'.grow f1 (kpt f2) f3 f4
        have G2 : Stp (Own α') F' H' F'' H'' := Stp.grow f1 (kpt f2) f3
        have q2 := q'.step G2 (α1 := α') .refl
        rw [drop_get hd] at h'
        unfold lcLoop at h'
        cases e2 : bindP [] p d ρ' with
        | none => rw [e2] at h'; exact h'.elim
        | some ρ2 =>
          rw [e2] at h'
          try dsimp only at h'
          refine hg (pins := []) S2 rx e2 fun σ2 α2 S3 o3 _ J3 => ?_
          have q3 : Pend G F'' H'' α2 Dl acc := ⟨q2.fF, fun z => q2.no (o3 _ z), q2.at'⟩
          have hw : L2.wipe σ2 vs = L2.wipe σ vs := (wipe_same J3.2 fun j hj => J3.1 j fun z => hj (hp j z)).trans (wipe_same (wipe_length σ vs) fun j hj => wipe_out hj)
          have T3 : Stp (A α1) F1 (upd H1 Dl (.lst [])) F'' H'' := T'.trans (wk G2) N'
          have N3 : New (A α1) (upd H1 Dl (.lst [])) (A α2) := fun a z => N' a (z.elim (fun y => .inl (o3 a y)) .inr)
          have e3 : Ex F1 F'' := e1.trans f1
          refine ⟨hw, ht.run S3 ?_⟩
          match q5 : mt ρ2, h' with
          | none, h' => exact h'.elim
          | some (.ex c f, _), h' => exact h'.elim
          | some (.ok b, ρ3), h' =>
            intro v F3 H3 α3 β S4 r4 T4 M4 N4
            obtain ⟨F4, S5, r5, T5, N5⟩ := S4.freeze r4 T4 M4 N4
            have q6 := q3.step T5 N5
            have T6 := T3.trans (wk T5) N3
            have N6 := New.trans T3 N3 (nw N5)
            try dsimp only at h'
            split at h'
            · rename_i eb
              refine ⟨true, frz_bl (H := H) r5 eb, ?_⟩
              rw [if_pos rfl]
              refine he.run S5 ?_
              match q7 : me ρ3, h' with
              | none, h' => exact h'.elim
              | some (.ex c f, _), h' => exact h'.elim
              | some (.ok o, ρ4), h' =>
                intro v2 F5 H5 α5 β2 S6 r6 T7 M7 N7
                obtain ⟨F6, S7, r7, T8, N8⟩ := S6.freeze r6 T7 M7 N7
                have q8 := q6.step T8 N8
                have T9 := T6.trans (wk T8) N6
                have N9 := New.trans T6 N6 (nw N8)
                obtain ⟨ws, hws, lws, S8, q9⟩ := S7.grown q8 r7
                obtain ⟨α9, S9, o9⟩ := S8.wipe vs
                refine ⟨ws, hws, by rw [lws]; exact Nat.lt_of_le_of_lt (Nat.le_trans la (Nat.le_of_lt (Nat.lt_of_lt_of_le hlt hlen))) (by decide), ?_⟩
                have T10 : Stp (A α5) F6 H5 F6 (upd H5 Dl (.lst (ws ++ [v2]))) := ⟨Ex.refl F6, fun b u hb n => .inl (by
                    rw [upd_ne fun z => n (.inr z)]
                    exact hb), fun b u hb => .inl hb⟩
                refine ⟨rfl, hlt, F6, wipeR ρ4 vs, α9, acc ++ [o.frz], S9.resig hw, ⟨q9.fF, fun z => q9.no (o9 _ z), q9.at'⟩, by rw [List.length_append]; simpa using la, e3.trans (T5.exF.trans T8.exF), T9.trans T10 N9, fun a z => ?_, h'⟩
                have N11 := New.trans T9 N9 (.refl (A := A α5) (H := H5))
                exact N11 a (z.elim (fun y => .inl (o9 a y)) .inr)
            · rename_i eb
              refine ⟨false, frz_bl (H := H) r5 eb, ?_⟩
              rw [if_neg Bool.false_ne_true]
              obtain ⟨α9, S9, o9⟩ := S5.wipe vs
              exact ⟨rfl, hlt, F4, wipeR ρ3 vs, α9, acc, S9.resig hw, ⟨q6.fF, fun z => q6.no (o9 _ z), q6.at'⟩, Nat.le_succ_of_le la, e3.trans T5.exF, T6, fun a z => N6 a (z.elim (fun y => .inl (o9 a y)) .inr), h'⟩
            · exact h'.elim
      · refine .inl ⟨i2 (by omega), ?_⟩
        rw [List.drop_of_length_le (by omega)] at h'
        obtain ⟨ws, hws, rws⟩ := q'.at'
        have nD : Own α Dl ∨ H Dl = none := by
          by_cases z : Own α Dl
          · exact .inl z
          · cases e5 : H Dl with
            | none => exact .inr rfl
            | some u =>
              obtain ⟨u', k⟩ := T1.there e5 z
              rw [k] at hD
              cases hD
        have nA : New (Own α) H (A α1) := fun a z => z.elim (fun y => N1 a y) fun y => by
          subst y
          exact nD
        refine h' (.ref Dl) F' H' α' [Dl] S'.unwiped ⟨Dl, ws, rfl, rfl, q'.fF, hws, rws⟩ (T1'.trans T' nA) (fun a ha => by
          have : a = Dl := by simpa using ha
          subst this
          exact q'.no) fun a z => ?_
        have z' : A α' a := z.elim .inl fun y => .inr (by simpa using y)
        exact New.trans T1' nA N' a z'
    · exact h.elim⟩
end
end VL

namespace VL
open PySem PySem.Spec
open PyProof.Rows L2
open Evl (Ex sz_of)

/-! ### operators on ints -/
def fInt (g : Int → Int → Int) : D → D → Option O
  | .int i, .int j => some (.val (.int (g i j)))
  | _, _ => none
def fIntC (C : Int → Int → Bool) (g : Int → Int → Int) : D → D → Option O
  | .int i, .int j => if C i j = true then some (.val (.int (g i j))) else none
  | _, _ => none
def fCmp (g : Int → Int → Bool) : D → D → Option O
  | .int i, .int j => some (.val (.bl (g i j)))
  | _, _ => none
section
variable {G : Cn} {F H : Hp} {σ : L2.St} {ρ : Rho} {α : Al}
theorem os_int {g : Int → Int → Int} : OSem G (rI0 fun i j => .int (g i j)) (fInt g) := fun {E F H σ ρ α Q x y dx dy} S hx hy h => by
  unfold fInt at h
  split at h
  · obtain rfl := hx.int
    obtain rfl := hy.int
    exact ⟨_, _, rfl, rfl, Post.val h S Rep.ofInt⟩
  · exact h.elim
theorem os_intC {C : Int → Int → Prop} {Cb : Int → Int → Bool} {g : Int → Int → Int} (hC : ∀ i j, Cb i j = true → C i j) : OSem G (rI C fun i j => .int (g i j)) (fIntC Cb g) := fun {E F H σ ρ α Q x y dx dy} S hx hy h => by
  unfold fIntC at h
  split at h
  · obtain rfl := hx.int
    obtain rfl := hy.int
    split at h
    · rename_i hc
      exact ⟨_, _, rfl, rfl, hC _ _ hc, Post.val h S Rep.ofInt⟩
    · exact h.elim
  · exact h.elim
theorem os_cmp {g : Int → Int → Bool} : OSem G (rI0 fun i j => .bl (g i j)) (fCmp g) := fun {E F H σ ρ α Q x y dx dy} S hx hy h => by
  unfold fCmp at h
  split at h
  · obtain rfl := hx.int
    obtain rfl := hy.int
    exact ⟨_, _, rfl, rfl, Post.val h S Rep.ofBl⟩
  · exact h.elim
def bMul (i j : Int) : Bool := (decide (-(2 ^ 64) < i) && decide (i < 2 ^ 64)) || (decide (-(2 ^ 64) < j) && decide (j < 2 ^ 64))
theorem os_mul : OSem G (rI CMul fun i j => .int (i * j)) (fIntC bMul fun i j => i * j) := os_intC fun i j h => by
  unfold bMul at h
  unfold CMul
  simp only [Bool.or_eq_true, Bool.and_eq_true, decide_eq_true_eq] at h
  exact h
def bMod (i j : Int) : Bool := decide (0 < j)
theorem os_mod : OSem G (rI (fun _ j => 0 < j) fun i j => .int (i % j)) (fIntC bMod fun i j => i % j) := os_intC fun i j h => by
  unfold bMod at h
  simpa using h
def bDiv (i j : Int) : Bool := decide (0 < j) && decide (j < 1073741824)
theorem os_div : OSem G (rI CDiv fun i j => .int (i / j)) (fIntC bDiv fun i j => i / j) := os_intC fun i j h => by
  unfold bDiv at h
  unfold CDiv
  simp only [Bool.and_eq_true, decide_eq_true_eq] at h
  exact h
def bPow (i j : Int) : Bool := decide (0 ≤ j) && decide (j ≤ 1000000) && decide (i.natAbs < 2 ^ 64)
theorem os_pow : OSem G (rI CPow fun i j => .int (i ^ j.toNat)) (fIntC bPow fun i j => i ^ j.toNat) := os_intC fun i j h => by
  unfold bPow at h
  unfold CPow
  simp only [Bool.and_eq_true, decide_eq_true_eq] at h
  exact ⟨h.1.1, h.1.2, h.2⟩
end

/-! ### equality of data -/
mutual
def toPy : D → Option PyData
  | .non => some .none
  | .bl b => some (.bool b)
  | .int i => some (.int i)
  | .str x => some (.str x)
  | .tup ds => (toPys ds).map .tuple
  | .lst ds => (toPys ds).map .list
  | .emp => some (.tuple [])
  | _ => none
def toPys : List D → Option (List PyData)
  | [] => some []
  | d :: ds => (toPy d).bind fun p => (toPys ds).map (p :: ·)
end
theorem sqt_none {K : PySem.W.Frag} {H : Hp} {a : Addr} {xs : List V} (h : SqT K (fun _ => none) a xs) : SqT K H a xs := by
  rcases h with (h | ⟨o, h⟩) | h
  · cases h
  · cases h
  · exact .inr h
section
variable {G : Cn} {F H : Hp} {σ : L2.St} {ρ : Rho} {α : Al}
mutual
theorem toPy_dp (e : Lx F H) : ∀ {v : V} (d : D) {p : PyData}, Rep G F v d → toPy d = some p → Dp G.K H v p
  | v, .non, p, h, q => by
    cases q
    unfold Rep at h
    subst h
    exact .non
  | v, .bl b, p, h, q => by
    cases q
    unfold Rep at h
    subst h
    exact .bl b
  | v, .int b, p, h, q => by
    cases q
    unfold Rep at h
    subst h
    exact .int b
  | v, .str b, p, h, q => by
    cases q
    unfold Rep at h
    subst h
    exact .str b
  | v, .tup ds, p, h, q => by
    unfold Rep at h
    obtain ⟨a, vs, rfl, h1, h2⟩ := h
    unfold toPy at q
    cases q1 : toPys ds with
    | none => rw [q1] at q; cases q
    | some ps =>
      rw [q1] at q
      cases q
      exact .tup (SqT.of (e.x h1)) (toPys_dp e ds h2 q1)
  | v, .lst ds, p, h, q => by
    unfold Rep at h
    obtain ⟨a, vs, rfl, h1, h2⟩ := h
    unfold toPy at q
    cases q1 : toPys ds with
    | none => rw [q1] at q; cases q
    | some ps =>
      rw [q1] at q
      cases q
      exact .lst (SqL.of (e.x h1)) (toPys_dp e ds h2 q1)
  | v, .dic ds, p, h, q => by cases q
  | v, .ins c ds, p, h, q => by cases q
  | v, .scr ds, p, h, q => by cases q
  | v, .emp, p, h, q => by
    cases q
    unfold Rep at h
    obtain ⟨a, rfl, h1⟩ := h
    exact .tup (sqt_none h1) .nil
theorem toPys_dp (e : Lx F H) : ∀ {vs : List V} (ds : List D) {ps : List PyData}, Reps G F vs ds → toPys ds = some ps → DpAll G.K H vs ps
  | vs, [], ps, h, q => by
    cases q
    rw [h.of_nil]
    exact .nil
  | vs, d :: ds, ps, h, q => by
    obtain ⟨v, r, rfl, h1, h2⟩ := h.of_cons
    unfold toPys at q
    cases q1 : toPy d with
    | none => rw [q1] at q; cases q
    | some p =>
      rw [q1] at q
      cases q2 : toPys ds with
      | none => rw [q2] at q; cases q
      | some ps' =>
        rw [q2] at q
        cases q
        exact .cons (toPy_dp e d h1 q1) (toPys_dp e ds h2 q2)
end
theorem RepX.dp {v : V} {d : D} {p : PyData} (h : RepX G F H v d) (e : Lx F H) (q : toPy d = some p) : Dp G.K H v p := by
  rcases h with h | ⟨ds, a, vs, rfl, rfl, e2, e3⟩ | ⟨ds, a, vs, rfl, _⟩ | ⟨c, fs, a, dx, fvs, rfl, _⟩ | ⟨_, _, _, rfl, _⟩
  · exact toPy_dp e d h q
  · unfold toPy at q
    cases q1 : toPys ds with
    | none => rw [q1] at q; cases q
    | some ps =>
      rw [q1] at q
      cases q
      exact .lst (SqL.of e2) (toPys_dp e ds e3 q1)
  · cases q
  · cases q
  · cases q
def fEq (x y : D) : Option O := (toPy x).bind fun p => (toPy y).bind fun q => if SeqAt.shaped p && SeqAt.shaped q then some (.val (.bl (PyData.eqv p q))) else none
def fNe (x y : D) : Option O := (toPy x).bind fun p => (toPy y).bind fun q => if SeqAt.shaped p && SeqAt.shaped q then some (.val (.bl (!PyData.eqv p q))) else none
theorem os_eq : OSem G (rEqD G.K) fEq := fun {E F H σ ρ α Q x y dx dy} S hx hy h => by
  unfold fEq at h
  cases q1 : toPy dx with
  | none => rw [q1] at h; exact h.elim
  | some p =>
    rw [q1] at h
    cases q2 : toPy dy with
    | none => rw [q2] at h; exact h.elim
    | some q =>
      rw [q2] at h
      dsimp only [Option.bind] at h
      split at h
      · rename_i hs
        rw [Bool.and_eq_true] at hs
        exact ⟨p, q, hx.dp S.ex q1, hy.dp S.ex q2, hs.1, hs.2, Post.val h S Rep.ofBl⟩
      · exact h.elim
theorem os_ne : OSem G (fun x y H Q => ∃ d e, Dp G.K H x d ∧ Dp G.K H y e ∧ SeqAt.shaped d = true ∧ SeqAt.shaped e = true ∧ Q (.bl (!PyData.eqv d e)) H) fNe := fun {E F H σ ρ α Q x y dx dy} S hx hy h => by
  unfold fNe at h
  cases q1 : toPy dx with
  | none => rw [q1] at h; exact h.elim
  | some p =>
    rw [q1] at h
    cases q2 : toPy dy with
    | none => rw [q2] at h; exact h.elim
    | some q =>
      rw [q2] at h
      dsimp only [Option.bind] at h
      split at h
      · rename_i hs
        rw [Bool.and_eq_true] at hs
        exact ⟨p, q, hx.dp S.ex q1, hy.dp S.ex q2, hs.1, hs.2, Post.val h S Rep.ofBl⟩
      · exact h.elim
end

/-! ### in a list, in a tuple -/
def flatD : D → Bool
  | .non | .bl _ | .int _ | .str _ => true
  | _ => false
def toV : D → V
  | .non => .non
  | .bl b => .bl b
  | .int i => .int i
  | .str x => .str x
  | _ => .non
def fIn (neg : Bool) (x y : D) : Option O := match y with
  | .lst ds => if flatD x && ds.all flatD then some (.val (.bl (if neg = true then !inV (toV x) (ds.map toV) else inV (toV x) (ds.map toV)))) else none
  | .tup ds => if flatD x && ds.all flatD then some (.val (.bl (if neg = true then !inV (toV x) (ds.map toV) else inV (toV x) (ds.map toV)))) else none
  | _ => none
section
variable {G : Cn} {F H : Hp} {σ : L2.St} {ρ : Rho} {α : Al}
theorem flat_rep {v : V} {d : D} (h : Rep G F v d) (f : flatD d = true) : v = toV d ∧ flatV v = true := by
  cases d with
  | non => unfold Rep at h; subst h; exact ⟨rfl, rfl⟩
  | bl b => unfold Rep at h; subst h; exact ⟨rfl, rfl⟩
  | int b => unfold Rep at h; subst h; exact ⟨rfl, rfl⟩
  | str b => unfold Rep at h; subst h; exact ⟨rfl, rfl⟩
  | _ => cases f
theorem flat_reps : ∀ {vs : List V} {ds : List D}, Reps G F vs ds → ds.all flatD = true → vs = ds.map toV ∧ vs.all flatV = true
  | _, [], h, _ => by
    rw [h.of_nil]
    exact ⟨rfl, rfl⟩
  | _, d :: ds, h, f => by
    obtain ⟨v, r, rfl, h1, h2⟩ := h.of_cons
    rw [List.all_cons, Bool.and_eq_true] at f
    obtain ⟨e1, e2⟩ := flat_rep h1 f.1
    obtain ⟨e3, e4⟩ := flat_reps h2 f.2
    subst e1 e3
    exact ⟨rfl, by rw [List.all_cons, e2, e4]; rfl⟩
theorem flat_x {v : V} {d : D} (h : RepX G F H v d) (f : flatD d = true) : v = toV d ∧ flatV v = true := by
  rcases h with h | ⟨ds, a, vs, rfl, rfl, e2, e3⟩ | ⟨ds, a, vs, rfl, _⟩ | ⟨c, fs, a, dx, fvs, rfl, _⟩ | ⟨_, _, _, rfl, _⟩
  · exact flat_rep h f
  all_goals cases f
theorem os_in {neg : Bool} : OSem G (rIn G.K neg) (fIn neg) := fun {E F H σ ρ α Q x y dx dy} S hx hy h => by
  unfold fIn at h
  split at h
  · rename_i ds
    obtain ⟨a, vs, rfl, h1, h2⟩ := hy.l S.ex
    split at h
    · rename_i hc
      rw [Bool.and_eq_true] at hc
      obtain ⟨rfl, fx⟩ := flat_x hx hc.1
      obtain ⟨rfl, fs⟩ := flat_reps h2 hc.2
      exact ⟨a, _, rfl, .inl (SqL.of h1), fx, fs, Post.val h S Rep.ofBl⟩
    · exact h.elim
  · rename_i ds
    obtain ⟨a, vs, rfl, h0, h1, h2⟩ := hy.t S.ex
    split at h
    · rename_i hc
      rw [Bool.and_eq_true] at hc
      obtain ⟨rfl, fx⟩ := flat_x hx hc.1
      obtain ⟨rfl, fs⟩ := flat_reps h2 hc.2
      exact ⟨a, _, rfl, .inr (SqT.of h1), fx, fs, Post.val h S Rep.ofBl⟩
    · exact h.elim
  · exact h.elim
end

/-! ### an item -/
def fIx (x y : D) : Option O := match x, y with
  | .lst ds, .int i => (atI ds i).map .val
  | .tup ds, .int i => (atI ds i).map .val
  | .scr ns, .int i => (atI ns i).map fun n => .val (.int n)
  | _, _ => none
section
variable {G : Cn} {F H : Hp} {σ : L2.St} {ρ : Rho} {α : Al}
theorem at_reps {vs : List V} {ds : List D} {i : Int} {d : D} (h : Reps G F vs ds) (e : atI ds i = some d) : ∃ v, atI vs i = some v ∧ Rep G F v d := by
  unfold atI at e ⊢
  rw [h.length]
  cases q : ixN ds.length i with
  | none => rw [q] at e; cases e
  | some j =>
    rw [q] at e
    exact h.get e
theorem at_map {A B : Type} {f : A → B} {l : List A} {i : Int} {x : A} (e : atI l i = some x) : atI (l.map f) i = some (f x) := by
  unfold atI at e ⊢
  rw [List.length_map]
  cases q : ixN l.length i with
  | none => rw [q] at e; cases e
  | some j =>
    rw [q] at e
    show (l.map f)[j]? = _
    rw [List.getElem?_map, show l[j]? = some x from e]
    rfl
theorem os_ix : OSem G (rIx G.K) fIx := fun {E F H σ ρ α Q x y dx dy} S hx hy h => by
  unfold fIx at h
  split at h
  · obtain rfl := hy.int
    obtain ⟨a, vs, rfl, h1, h2⟩ := hx.l S.ex
    rename_i ds i
    cases q : atI ds i with
    | none => rw [q] at h; exact h.elim
    | some d =>
      rw [q] at h
      obtain ⟨v, e1, r⟩ := at_reps h2 q
      exact .inl ⟨a, vs, i, v, rfl, rfl, SqL.of h1, e1, Post.val h S r⟩
  · obtain rfl := hy.int
    obtain ⟨a, vs, rfl, h0, h1, h2⟩ := hx.t S.ex
    rename_i ds i
    cases q : atI ds i with
    | none => rw [q] at h; exact h.elim
    | some d =>
      rw [q] at h
      obtain ⟨v, e1, r⟩ := at_reps h2 q
      exact .inr (.inl ⟨a, vs, i, v, rfl, rfl, SqT.of h1, e1, Post.val h S r⟩)
  · obtain rfl := hy.int
    rename_i ns i
    rcases hx with hx | ⟨ds, a, vs, q, _⟩ | ⟨ds, a, vs, q, _⟩ | ⟨c, fs, a, dx, fvs, q, _⟩ | ⟨_, _, _, q, _⟩
    · unfold Rep at hx
      obtain ⟨a, rfl, h1⟩ := hx
      cases q : atI ns i with
      | none => rw [q] at h; exact h.elim
      | some n =>
        rw [q] at h
        exact .inl ⟨a, _, i, _, rfl, rfl, S.ex.l h1, at_map q, Post.val h S Rep.ofInt⟩
    all_goals cases q
  · exact h.elim
end

/-! ### built-ins -/
def fLen : List D → Option O
  | [.lst ds] => some (.val (.int ds.length))
  | [.tup ds] => some (.val (.int ds.length))
  | [.scr ds] => some (.val (.int ds.length))
  | [.str x] => if x.length ≤ 100000 then some (.val (.int x.length)) else none
  | _ => none
def bools : List D → Option (List Bool)
  | [] => some []
  | .bl b :: r => (bools r).map (b :: ·)
  | _ => none
def fAll : List D → Option O
  | [.lst ds] => (bools ds).map fun bs => .val (.bl (bs.all id))
  | _ => none
def fAny : List D → Option O
  | [.lst ds] => (bools ds).map fun bs => .val (.bl (bs.any id))
  | _ => none
def fList : List D → Option O
  | [.lst ds] => some (.lst ds)
  | [.tup ds] => some (.lst ds)
  | _ => none
def fTuple : List D → Option O
  | [.lst ds] => some (.val (.tup ds))
  | [.tup ds] => some (.val (.tup ds))
  | _ => none
def fMin2 : List D → Option O
  | [.int i, .int j] => some (.val (.int (if j < i then j else i)))
  | _ => none
def fMax2 : List D → Option O
  | [.int i, .int j] => some (.val (.int (if j > i then j else i)))
  | _ => none
def fIntOf : List D → Option O
  | [.int i] => some (.val (.int i))
  | [.bl k] => some (.val (.int (if k then 1 else 0)))
  | _ => none
section
variable {G : Cn} {F H : Hp} {σ : L2.St} {ρ : Rho} {α : Al}
theorem RepXs.one {vs : List V} {d : D} (h : RepXs G F H vs [d]) : ∃ v, vs = [v] ∧ RepX G F H v d := by
  obtain ⟨v, r, rfl, h1, h2⟩ := h
  obtain rfl : r = [] := h2
  exact ⟨v, rfl, h1⟩
theorem RepXs.two {vs : List V} {d e : D} (h : RepXs G F H vs [d, e]) : ∃ v w, vs = [v, w] ∧ RepX G F H v d ∧ RepX G F H w e := by
  obtain ⟨v, r, rfl, h1, h2⟩ := h
  obtain ⟨w, rfl, h3⟩ := RepXs.one h2
  exact ⟨v, w, rfl, h1, h3⟩
theorem RepX.scr {v : V} {ns : List Int} (h : RepX G F H v (.scr ns)) (e : Lx F H) : ∃ a, v = .ref a ∧ SqL G.K H a (ns.map V.int) := by
  rcases h with h | ⟨ds, a, vs, q, _⟩ | ⟨ds, a, vs, q, _⟩ | ⟨c, fs, a, dx, fvs, q, _⟩ | ⟨_, _, _, q, _⟩
  · unfold Rep at h
    obtain ⟨a, rfl, h1⟩ := h
    exact ⟨a, rfl, e.l h1⟩
  all_goals cases q
theorem RepX.emp {v : V} (h : RepX G F H v .emp) (e : Lx F H) : ∃ a, v = .ref a ∧ SqT G.K (fun _ => none) a [] := by
  rcases h with h | ⟨ds, a, vs, q, _⟩ | ⟨ds, a, vs, q, _⟩ | ⟨c, fs, a, dx, fvs, q, _⟩ | ⟨_, _, _, q, _⟩
  · unfold Rep at h
    obtain ⟨a, rfl, h1⟩ := h
    exact ⟨a, rfl, h1⟩
  all_goals cases q
theorem cs_len : CSem G (fun xs H Q => ∃ x n, xs = [x] ∧ LenV G.K x H n ∧ Q (.int n) H) fLen := fun {E F H σ ρ α Q vs ds} S hv h => by
  unfold fLen at h
  split at h
  · obtain ⟨v, rfl, hx⟩ := hv.one
    obtain ⟨a, ws, rfl, h1, h2⟩ := hx.l S.ex
    exact ⟨.ref a, _, rfl, .inl ⟨ws, SqL.of h1, h2.length.symm⟩, Post.val h S Rep.ofInt⟩
  · obtain ⟨v, rfl, hx⟩ := hv.one
    obtain ⟨a, ws, rfl, h0, h1, h2⟩ := hx.t S.ex
    exact ⟨.ref a, _, rfl, .inr ⟨ws, SqT.of h1, h2.length.symm⟩, Post.val h S Rep.ofInt⟩
  · obtain ⟨v, rfl, hx⟩ := hv.one
    obtain ⟨a, rfl, h1⟩ := hx.scr S.ex
    exact ⟨.ref a, _, rfl, .inl ⟨_, h1, (List.length_map ..).symm⟩, Post.val h S Rep.ofInt⟩
  · obtain ⟨v, rfl, hx⟩ := hv.one
    obtain rfl := hx.str
    split at h
    · rename_i hl
      exact ⟨_, _, rfl, ⟨sz_of hl, rfl⟩, Post.val h S Rep.ofInt⟩
    · exact h.elim
  · exact h.elim
theorem bools_reps : ∀ {vs : List V} {ds : List D} {bs : List Bool}, Reps G F vs ds → bools ds = some bs → vs = bs.map V.bl
  | _, [], bs, h, e => by
    cases e
    rw [h.of_nil]
    rfl
  | _, d :: ds, bs, h, e => by
    obtain ⟨v, r, rfl, h1, h2⟩ := h.of_cons
    cases d with
    | bl b =>
      unfold bools at e
      cases q : bools ds with
      | none => rw [q] at e; cases e
      | some bs' =>
        rw [q] at e
        cases e
        unfold Rep at h1
        rw [h1, bools_reps h2 q]
        rfl
    | _ => cases e
theorem cs_all : CSem G (rAll G.K) fAll := fun {E F H σ ρ α Q vs ds} S hv h => by
  unfold fAll at h
  split at h
  · obtain ⟨v, rfl, hx⟩ := hv.one
    obtain ⟨a, ws, rfl, h1, h2⟩ := hx.l S.ex
    rename_i ds
    cases q : bools ds with
    | none => rw [q] at h; exact h.elim
    | some bs =>
      rw [q] at h
      obtain rfl := bools_reps h2 q
      exact ⟨a, bs, rfl, SqL.of h1, Post.val h S Rep.ofBl⟩
  · exact h.elim
theorem cs_any : CSem G (rAny G.K) fAny := fun {E F H σ ρ α Q vs ds} S hv h => by
  unfold fAny at h
  split at h
  · obtain ⟨v, rfl, hx⟩ := hv.one
    obtain ⟨a, ws, rfl, h1, h2⟩ := hx.l S.ex
    rename_i ds
    cases q : bools ds with
    | none => rw [q] at h; exact h.elim
    | some bs =>
      rw [q] at h
      obtain rfl := bools_reps h2 q
      exact ⟨a, bs, rfl, SqL.of h1, Post.val h S Rep.ofBl⟩
  · exact h.elim
theorem cs_list : CSem G (fun xs H Q => ∃ p ys, xs = [.ref p] ∧ (SqL G.K H p ys ∨ SqT G.K H p ys) ∧ ∀ l, H l = none → Q (.ref l) (upd H l (.lst ys))) fList := fun {E F H σ ρ α Q vs ds} S hv h => by
  unfold fList at h
  split at h
  · obtain ⟨v, rfl, hx⟩ := hv.one
    obtain ⟨a, ws, rfl, h1, h2⟩ := hx.l S.ex
    exact ⟨a, ws, rfl, .inl (SqL.of h1), fun l hl => Post.newL h S hl h2⟩
  · obtain ⟨v, rfl, hx⟩ := hv.one
    obtain ⟨a, ws, rfl, h0, h1, h2⟩ := hx.t S.ex
    exact ⟨a, ws, rfl, .inr (SqT.of h1), fun l hl => Post.newL h S hl h2⟩
  · exact h.elim
theorem cs_tuple : CSem G (fun xs H Q => ∃ p ys, xs = [.ref p] ∧ ((SqL G.K H p ys ∧ ∀ l, H l = none → Q (.ref l) (upd H l (.tup ys))) ∨ (SqT G.K H p ys ∧ Q (.ref p) H))) fTuple := fun {E F H σ ρ α Q vs ds} S hv h => by
  unfold fTuple at h
  split at h
  · obtain ⟨v, rfl, hx⟩ := hv.one
    obtain ⟨a, ws, rfl, h1, h2⟩ := hx.l S.ex
    exact ⟨a, ws, rfl, .inl ⟨SqL.of h1, fun l hl => Post.newV h S hl (Rep.ofTup upd_same (h2.mono (Ex.new (S.fresh hl))))⟩⟩
  · obtain ⟨v, rfl, hx⟩ := hv.one
    obtain ⟨a, ws, rfl, h0, h1, h2⟩ := hx.t S.ex
    exact ⟨a, ws, rfl, .inr ⟨SqT.of h1, Post.val h S (Rep.ofTup h0 h2)⟩⟩
  · exact h.elim
theorem cs_min2 : CSem G (fun xs H Q => ∃ i j, xs = [.int i, .int j] ∧ Q (.int (if j < i then j else i)) H) fMin2 := fun {E F H σ ρ α Q vs ds} S hv h => by
  unfold fMin2 at h
  split at h
  · obtain ⟨v, w, rfl, hx, hy⟩ := hv.two
    obtain rfl := hx.int
    obtain rfl := hy.int
    exact ⟨_, _, rfl, Post.val h S Rep.ofInt⟩
  · exact h.elim
theorem cs_max2 : CSem G (fun xs H Q => ∃ i j, xs = [.int i, .int j] ∧ Q (.int (if j > i then j else i)) H) fMax2 := fun {E F H σ ρ α Q vs ds} S hv h => by
  unfold fMax2 at h
  split at h
  · obtain ⟨v, w, rfl, hx, hy⟩ := hv.two
    obtain rfl := hx.int
    obtain rfl := hy.int
    exact ⟨_, _, rfl, Post.val h S Rep.ofInt⟩
  · exact h.elim
theorem cs_intOf : CSem G (fun xs H Q => (∃ i, xs = [.int i] ∧ Q (.int i) H) ∨ ∃ k, xs = [.bl k] ∧ Q (.int (if k then 1 else 0)) H) fIntOf := fun {E F H σ ρ α Q vs ds} S hv h => by
  unfold fIntOf at h
  split at h
  · obtain ⟨v, rfl, hx⟩ := hv.one
    obtain rfl := hx.int
    exact .inl ⟨_, rfl, Post.val h S Rep.ofInt⟩
  · obtain ⟨v, rfl, hx⟩ := hv.one
    obtain rfl := hx.bl
    exact .inr ⟨_, rfl, Post.val h S Rep.ofInt⟩
  · exact h.elim
/-- isinstance of what is no instance, a built-in class -/
def tyOf : D → Option String
  | .non => some "NoneType"
  | .bl _ => some "bool"
  | .int _ => some "int"
  | .str _ => some "str"
  | .tup _ => some "tuple"
  | .lst _ => some "list"
  | .scr _ => some "list"
  | .dcn _ => some "dict"
  | .dic _ => some "dict"
  | .ins _ _ => none
  | .cls _ => none
  | .emp => some "tuple"
def kitT (t : String) : List (String × Bool) := match t with
  | "int" => [("NoneType", false), ("bool", true), ("int", true), ("str", false), ("tuple", false), ("list", false), ("dict", false)]
  | "bool" => [("NoneType", false), ("bool", true), ("int", false), ("str", false), ("tuple", false), ("list", false), ("dict", false)]
  | "str" => [("NoneType", false), ("bool", false), ("int", false), ("str", true), ("tuple", false), ("list", false), ("dict", false)]
  | "tuple" => [("NoneType", false), ("bool", false), ("int", false), ("str", false), ("tuple", true), ("list", false), ("dict", false)]
  | "list" => [("NoneType", false), ("bool", false), ("int", false), ("str", false), ("tuple", false), ("list", true), ("dict", false)]
  | "dict" => [("NoneType", false), ("bool", false), ("int", false), ("str", false), ("tuple", false), ("list", false), ("dict", true)]
  | _ => []
def fIsTy (t : String) : List D → Option O
  | [x] => (tyOf x).bind fun a => ((kitT t).lookup a).map fun b => .val (.bl b)
  | _ => none
theorem kit_all : ∀ t ∈ ["int", "bool", "str", "tuple", "list", "dict"], ∀ p ∈ kitT t, kitB p.1 t = some p.2 := by decide +kernel
end
end VL

namespace VL
open PySem PySem.Spec
open PyProof.Rows L2
open Evl (Ex sz_of)

/-! ### the kind of a value, of a dict with tuples for keys too -/
inductive TyY (K : PySem.W.Frag) (w : World) (H : Hp) : V → Value → Prop where
  | x {v : V} {t : Value} (h : TyX K H v t) : TyY K w H v t
  | nd {a : Addr} {xs : List (NestedKey × Addr × V)} (e : Rd H a (NDo w a xs)) : TyY K w H (.ref a) (.type "dict")
theorem kind_of {X : Cx} {pins : List (Addr × Obj)} {σ : L2.St} {H : Hp} {s : Shared} {x : V} {u t : Value} (I : Inv X pins σ H s) (rx : RelV x u) (ty : TyY X.K X.w H x t) : ∃ P : Heap → Prop, PySem.W.KitX X.K u t P ∧ P s.heap ∧ u ≠ .builtin "__main__.__loader__#opaque" := by
  cases ty with
  | x h => exact kit_of I rx h
  | @nd a xs e =>
    obtain rfl : u = Value.ref a := rx
    obtain ⟨⟨_, _, _, _, o, _, _, ho, hx, _⟩, _⟩ := (show ObjOk X.prog X.w H s.heap a (NDo X.w a xs) from e.ok I.hok)
    exact ⟨_, PySem.W.kitx_dict, ⟨o, ho, hx.1⟩, fun z => nomatch z⟩
def rIsY (K : PySem.W.Frag) (w : World) : List V → Hp → VK → Prop := fun xs H Q => ∃ (x c : V) (t u : Value) (b : Bool), xs = [x, c] ∧ ClsV c u ∧ TyY K w H x t ∧ PySem.W.kitOne K t u = some b ∧ Q (.bl b) H
def rIsYT (K : PySem.W.Frag) (w : World) : List V → Hp → VK → Prop := fun xs H Q => ∃ (x : V) (p : Addr) (cs : List V) (t : Value) (us : List Value) (b : Bool), xs = [x, .ref p] ∧ H p = some (.tup cs) ∧ Paired ClsV cs us ∧ TyY K w H x t ∧ PySem.W.kitAny K t us = some b ∧ Q (.bl b) H
theorem call_isO {X : Cx} : CallR X (.builtin "isinstance") (rIsY X.K X.w) := by
  intro pins s σ H xs us Q I r h
  obtain ⟨x, c, t, u, b, rfl, k, ty, e, q⟩ := h
  obtain ⟨u1, u2, rfl, r1, r2⟩ := vals2 r
  obtain rfl := k.eq r2
  obtain ⟨P, Z, p, hx⟩ := kind_of I r1 ty
  exact PySem.W.kia_one Z I.kIn p e hx fun tk => ⟨.bl b, H, I.tok tk, rfl, q⟩
theorem call_isOT {X : Cx} : CallR X (.builtin "isinstance") (rIsYT X.K X.w) := by
  intro pins s σ H xs us Q I r h
  obtain ⟨x, tp, cs, t, ws, b, rfl, hT, k, ty, e, q⟩ := h
  obtain ⟨u1, u2, rfl, r1, r2⟩ := vals2 r
  obtain rfl : u2 = Value.ref tp := r2
  obtain ⟨P, Z, p, hx⟩ := kind_of I r1 ty
  obtain ⟨_, its, rv, o, h1, h2, n, h3⟩ := (show ObjOk X.prog X.w H s.heap tp (.tup cs) from I.hok tp _ hT)
  obtain rfl := ClsV.all k rv
  cases o with
  | mk oc od dt sl =>
    dsimp only at h2 h3
    subst h2 h3
    exact PySem.W.kia_tup Z I.kIn p h1 e hx fun tk => ⟨.bl b, H, I.tok tk, rfl, q⟩

section
variable {G : Cn} {E : XK} {ta tb tc : TE} {ma mb mc : M} {i : Nat}

/-! ### isinstance -/
/-- what kind of thing each value is: ans says the answer for it -/
def IsOk (G : Cn) (u : Value) (ans : D → Option Bool) : Prop := ∀ {F H : Hp} {v : V} {d : D} {b : Bool}, Lx F H → RepX G F H v d → ans d = some b → ∃ t, TyY G.K G.w H v t ∧ PySem.W.kitOne G.K t u = some b
def mIs (ans : D → Option Bool) (a : M) : M := fun ρ => bnd (a ρ) fun o ρ1 => (ans o.frz).map fun b => (.ok (.val (.bl b)), ρ1)
theorem sem_is {cv : V} {u : Value} {ans : D → Option Bool} (hk : IsOk G u ans) (hc : ClsV cv u) (ha : Sem G E ta ma) : Sem G E (tCB (rIsY G.K G.w) (tCons ta (tCons (tC cv) tNil))) (mIs ans ma) := ⟨fun {F H σ ρ α Q} S h =>
  ha.run S (Post.to h fun o ρ1 v F1 H1 α1 S1 r1 T1 N1 h1 => by
    cases e : ans o.frz with
    | none => rw [e] at h1; exact h1.elim
    | some b =>
      rw [e] at h1
      obtain ⟨t, ht, hq⟩ := hk S1.ex (.inl r1) e
      exact ⟨v, cv, t, u, b, rfl, hc, ht, hq, Post.val (Post.shift T1 N1 h1) S1 Rep.ofBl⟩)⟩
theorem RepX.ty {F H : Hp} {v : V} {d : D} {n : String} (e : Lx F H) (h : RepX G F H v d) (q : tyOf d = some n) : TyY G.K G.w H v (.type n) := by
  cases d with
  | non => cases q; rw [h.non]; exact .x (.base .non)
  | bl b => cases q; rw [h.bl]; exact .x (.base (.bl b))
  | int b => cases q; rw [h.int]; exact .x (.base (.int b))
  | str b => cases q; rw [h.str]; exact .x (.base (.str b))
  | tup ds =>
    cases q
    obtain ⟨a, vs, rfl, h0, h1, h2⟩ := h.t e
    exact .x (.base (.tup h1))
  | lst ds =>
    cases q
    obtain ⟨a, vs, rfl, h1, h2⟩ := h.l e
    exact .x (.base (.lst h1))
  | dic ds =>
    cases q
    obtain ⟨a, vs, rfl, h1, h2⟩ := h.k e
    rcases h1 with h1 | ⟨o, h1⟩
    · exact .x (.base (.dK h1))
    · exact .x (.fDict h1)
  | ins c fs => cases q
  | scr ns =>
    cases q
    obtain ⟨a, rfl, h1⟩ := h.scr e
    rcases h1 with (h1 | ⟨o, h1⟩) | ⟨o, its, n, hk, hc, _⟩
    · exact .x (.base (.lst h1))
    · exact .x (.base (.frz h1))
    · exact .x (.kList hk hc)
  | dcn ds =>
    cases q
    obtain ⟨a, xs, rfl, h1, _⟩ := h.n e
    exact .nd h1
  | cls c => cases q
  | emp =>
    cases q
    obtain ⟨a, rfl, h1⟩ := h.emp e
    rcases h1 with (h1 | ⟨o, h1⟩) | ⟨o, its, n, hk, hc, _⟩
    · cases h1
    · cases h1
    · exact .x (.kTuple hk hc)
/-- a built-in class, of what is no instance -/
def ansT (t : String) (d : D) : Option Bool := (tyOf d).bind fun a => (kitT t).lookup a
theorem mem_lookup {l : List (String × Bool)} {a : String} {b : Bool} (h : l.lookup a = some b) : (a, b) ∈ l := by
  induction l with
  | nil => cases h
  | cons p r ih =>
    obtain ⟨x, y⟩ := p
    unfold List.lookup at h
    split at h
    · rename_i e
      cases h
      have : a = x := by simpa using e
      subst this
      exact List.mem_cons_self
    · exact List.mem_cons_of_mem _ (ih h)
theorem is_ty {t : String} (ht : t ∈ ["int", "bool", "str", "tuple", "list", "dict"]) : IsOk G (.type t) (ansT t) := fun {F H v d b} e r q => by
  unfold ansT at q
  cases q1 : tyOf d with
  | none => rw [q1] at q; cases q
  | some a =>
    rw [q1] at q
    exact ⟨.type a, r.ty e q1, kit_ty (kit_all t ht (a, b) (mem_lookup q))⟩
/-- one of some built-in classes -/
def ansTs (ts : List String) (d : D) : Option Bool := match ts with
  | [] => some false
  | t :: ts => match ansT t d with
    | some true => some true
    | some false => ansTs ts d
    | none => none
theorem kit_any {F H : Hp} {v : V} {d : D} {a : String} (q : tyOf d = some a) : ∀ {ts : List String} {b : Bool}, (∀ t ∈ ts, t ∈ ["int", "bool", "str", "tuple", "list", "dict"]) → ansTs ts d = some b → PySem.W.kitAny G.K (.type a) (ts.map Value.type) = some b
  | [], b, _, e => by
    cases e
    rfl
  | t :: ts, b, ht, e => by
    unfold ansTs at e
    have h1 : ∀ c, ansT t d = some c → PySem.W.kitOne G.K (.type a) (.type t) = some c := fun c hc => by
      unfold ansT at hc
      rw [q] at hc
      exact kit_ty (kit_all t (ht t (by simp)) (a, c) (mem_lookup hc))
    rw [List.map_cons]
    unfold PySem.W.kitAny
    cases z : ansT t d with
    | none => rw [z] at e; cases e
    | some c =>
      rw [z] at e
      rw [h1 c z]
      cases c with
      | true => exact e
      | false => exact kit_any (F := F) (H := H) (v := v) q (fun x hx => ht x (List.mem_cons_of_mem _ hx)) e
def tys (ts : List String) : TA := match ts with
  | [] => tNil
  | t :: ts => tCons (tC (.ty t)) (tys ts)
theorem tys_run {σ : L2.St} {H : Hp} : ∀ {ts : List String} {Q : List V → Hp → Prop}, Q (ts.map V.ty) H → tys ts σ H Q
  | [], Q, h => h
  | t :: ts, Q, h => tys_run (ts := ts) h
theorem paired_ty : ∀ ts : List String, Paired ClsV (ts.map V.ty) (ts.map Value.type)
  | [] => .nil
  | t :: ts => .cons (.ty t) (paired_ty ts)
theorem sem_isT {ts : List String} (ht : ∀ t ∈ ts, t ∈ ["int", "bool", "str", "tuple", "list", "dict"]) (hl : ts.length ≤ 100) (hn : ts ≠ []) (ha : Sem G E ta ma) : Sem G E (tCB (rIsYT G.K G.w) (tCons ta (tCons (tTup (tys ts)) tNil))) (mIs (ansTs ts) ma) := ⟨fun {F H σ ρ α Q} S h =>
  ha.run S (Post.to h fun o ρ1 v F1 H1 α1 S1 r1 T1 N1 h1 => by
    cases e : ansTs ts o.frz with
    | none => rw [e] at h1; exact h1.elim
    | some b =>
      rw [e] at h1
      refine tys_run ⟨sz_of (by rw [List.length_map]; omega), fun p hp => ?_⟩
      cases z : tyOf o.frz with
      | none =>
        match ts, hn with
        | t :: ts, _ => unfold ansTs ansT at e; rw [z] at e; cases e
      | some a =>
        have S2 := S1.laid (o := .tup (ts.map V.ty)) hp
        have T2 := S1.laidStp (A := Own α1) (o := .tup (ts.map V.ty)) hp
        exact ⟨v, p, ts.map V.ty, .type a, ts.map Value.type, b, rfl, upd_same, paired_ty ts, RepX.ty S2.ex (.inl (r1.mono T2.exF)) z, kit_any (F := F1) (H := H1) (v := v) z ht e, Post.val (Post.shift T2 .refl (Post.shift T1 N1 h1)) S2 Rep.ofBl⟩)⟩
/-- the library's word for what isinstance asks of an own class -/
abbrev InsOk := @C8.InsC
/-- any class u: the built-in kinds' answers kt, the own classes' answers cs -/
def ansC (kt : List (String × Bool)) (cs : List (Nat × Bool)) (d : D) : Option Bool := match d with
  | .ins c _ => cs.lookup c
  | d => (tyOf d).bind fun a => kt.lookup a
theorem mem_lookupN {l : List (Nat × Bool)} {a : Nat} {b : Bool} (h : l.lookup a = some b) : (a, b) ∈ l := by
  induction l with
  | nil => cases h
  | cons p r ih =>
    obtain ⟨x, y⟩ := p
    unfold List.lookup at h
    split at h
    · rename_i e
      cases h
      have : a = x := by simpa using e
      subst this
      exact List.mem_cons_self
    · exact List.mem_cons_of_mem _ (ih h)
theorem is_cls {u : Value} {kt : List (String × Bool)} {cs : List (Nat × Bool)} (h1 : ∀ p ∈ kt, PySem.W.kitOne G.K (.type p.1) u = some p.2) (h2 : ∀ p ∈ cs, InsOk G.K (G.cls p.1) ∧ PySem.W.kitOne G.K (.ref (G.cls p.1)) u = some p.2) : IsOk G u (ansC kt cs) := fun {F H v d b} e r q => by
  unfold ansC at q
  split at q
  · rename_i c fs
    obtain ⟨a, dx, fvs, rfl, hx, _⟩ := r.i e
    obtain ⟨k, kb⟩ := h2 (c, b) (mem_lookupN q)
    exact ⟨.ref (G.cls c), .x (.base (.ins hx k.cl k.ha k.hn k.htk k.hm)), kb⟩
  · cases q1 : tyOf d with
    | none => rw [q1] at q; cases q
    | some a =>
      rw [q1] at q
      exact ⟨.type a, r.ty e q1, h1 (a, b) (mem_lookup q)⟩

/-! ### slices -/
def cutD (ds : List D) (lo hi : Option Int) : List D := (ds.drop (HT.sIx ds.length 0 lo)).take (HT.sIx ds.length ds.length hi - HT.sIx ds.length 0 lo)
structure SemO (G : Cn) (E : XK) (t : TO) (m : Rho → Option (Rs (Option Int) × Rho)) : Prop where
  run : ∀ {F H σ ρ α} {Q : Option Int → Hp → Prop}, Ste G F H σ ρ α → PostG G E F H α (fun x ρ1 => ∀ F1 H1 α1, Ste G F1 H1 σ ρ1 α1 → Stp (Own α) F H F1 H1 → New (Own α) H (Own α1) → Q x H1) (m ρ) → t σ H Q
def oNone : Rho → Option (Rs (Option Int) × Rho) := fun ρ => some (.ok none, ρ)
def oPart (a : M) : Rho → Option (Rs (Option Int) × Rho) := fun ρ => bnd (a ρ) fun o ρ1 => match o.frz with
  | .int i => some (.ok (some i), ρ1)
  | _ => none
theorem semO_none : SemO G E tNoPart oNone := ⟨fun {F H σ ρ α Q} S h => h F H α S .refl .refl⟩
theorem semO_part (ha : Sem G E ta ma) : SemO G E (tPart ta) (oPart ma) := ⟨fun {F H σ ρ α Q} S h =>
  ha.run S (Post.to h fun o ρ1 v F1 H1 α1 S1 r1 T1 N1 h1 => by
    split at h1
    · rename_i i e
      rw [e] at r1
      exact ⟨i, r1.toInt, h1 F1 H1 α1 S1 T1 N1⟩
    · exact h1.elim)⟩
def fSl (x : D) (lo hi : Option Int) : Option O := match x with
  | .lst ds => some (.lst (cutD ds lo hi))
  | .tup ds => some (.val (.tup (cutD ds lo hi)))
  | .scr ns => some (.lst (cutD (ns.map .int) lo hi))
  | .emp => some (.val .emp)
  | _ => none
def rSlice (K : PySem.W.Frag) : V → Option Int → Option Int → Hp → VK → Prop := fun x lo hi H Q => rSlL K x lo hi H Q ∨ rSlA K x lo hi H Q
theorem sl_any {X : Cx} : SlR X (rSlice X.K) := sl_list.or sl_tupA
theorem cut_reps {F : Hp} {vs : List V} {ds : List D} {lo hi : Option Int} (h : Reps G F vs ds) : Reps G F (cutV vs lo hi) (cutD ds lo hi) := by
  unfold cutV cutD
  rw [h.length]
  exact (h.drop _).take _
theorem reps_ints {F : Hp} : ∀ ns : List Int, Reps G F (ns.map V.int) (ns.map D.int)
  | [] => Reps.nil
  | n :: r => Reps.cons Rep.ofInt (reps_ints r)
def mSl (a : M) (lo hi : Rho → Option (Rs (Option Int) × Rho)) : M := fun ρ => bnd (a ρ) fun x ρ1 => bnd (lo ρ1) fun l ρ2 => bnd (hi ρ2) fun u ρ3 => (fSl x.frz l u).map fun o => (.ok o, ρ3)
theorem PostG.toO {F H : Hp} {σ : L2.St} {α : Al} {B : Type} {r : Option (Rs (Option Int) × Rho)} {k : Option Int → Rho → Option (Rs B × Rho)} {okQ : B → Rho → Prop} {R : Option Int → Hp → Prop} (h : PostG G E F H α okQ (bnd r k))
    (hk : ∀ x ρ1 F1 H1 α1, Ste G F1 H1 σ ρ1 α1 → Stp (Own α) F H F1 H1 → New (Own α) H (Own α1) → PostG G E F H α okQ (k x ρ1) → R x H1) :
    PostG G E F H α (fun x ρ1 => ∀ F1 H1 α1, Ste G F1 H1 σ ρ1 α1 → Stp (Own α) F H F1 H1 → New (Own α) H (Own α1) → R x H1) r :=
  PostG.bind h fun x ρ1 hp F1 H1 α1 S T N => hk x ρ1 F1 H1 α1 S T N hp
theorem sIx_zero (x : Option Int) : HT.sIx 0 0 x = 0 := by
  exact Nat.le_zero.mp (HT.sIx_le 0 0 (Nat.le_refl _) x)
theorem slice_end {F H : Hp} {σ : L2.St} {ρ : Rho} {α : Al} {Q : VK} {v : V} {d : D} {l u : Option Int} (S : Ste G F H σ ρ α) (r : RepX G F H v d) (h : Post G E F H σ α ((fSl d l u).map fun o => (.ok o, ρ)) Q) : rSlice G.K v l u H Q := by
  unfold fSl at h
  split at h
  · obtain ⟨a, vs, rfl, h1, h2⟩ := r.l S.ex
    exact .inl ⟨a, vs, rfl, SqL.of h1, fun p hp => Post.newL h S hp (cut_reps h2)⟩
  · rename_i ds
    obtain ⟨a, vs, rfl, h0, h1, h2⟩ := r.t S.ex
    refine .inr ⟨a, vs, rfl, SqT.of h1, fun hw => ?_, fun _ p hp => Post.newV h S hp (Rep.ofTup upd_same ((cut_reps h2).mono (Ex.new (S.fresh hp))))⟩
    have e : cutD ds l u = ds := by
      unfold cutD
      rw [← h2.length, hw.1, hw.2, List.drop_zero, Nat.sub_zero, h2.length, List.take_length]
    rw [e] at h
    exact Post.val h S (Rep.ofTup h0 h2)
  · obtain ⟨a, rfl, h1⟩ := r.scr S.ex
    exact .inl ⟨a, _, rfl, h1, fun p hp => Post.newL h S hp (cut_reps (reps_ints _))⟩
  · obtain ⟨a, rfl, h1⟩ := r.emp S.ex
    exact .inr ⟨a, [], rfl, sqt_none h1, fun hw => Post.val h S (by unfold Rep; exact ⟨a, rfl, h1⟩), fun n p hp => absurd ⟨sIx_zero l, sIx_zero u⟩ n⟩
  · exact h.elim
theorem sem_sl {tl th : TO} {ml mh : Rho → Option (Rs (Option Int) × Rho)} (ha : Sem G E ta ma) (hl : SemO G E tl ml) (hh : SemO G E th mh) : Sem G E (tSl (rSlice G.K) ta tl th) (mSl ma ml mh) := ⟨fun {F H σ ρ α Q} S h =>
  ha.run S (Post.to h fun o ρ1 v F1 H1 α1 S1 r1 T1 N1 h1 => hl.run S1 (PostG.toO (Post.shift T1 N1 h1) fun x ρ2 F2 H2 α2 S2 T2 N2 h2 => hh.run S2 (PostG.toO (Post.shift T2 N2 h2) fun y ρ3 F3 H3 α3 S3 T3 N3 h3 =>
    slice_end S3 (.inl ((r1.mono T2.exF).mono T3.exF)) (Post.shift T3 N3 h3))))⟩
/-- .. of what stands in a slot -/
def mSlS (i : Nat) (lo hi : Rho → Option (Rs (Option Int) × Rho)) : M := fun ρ => (look ρ i).bind fun _ => bnd (lo ρ) fun l ρ2 => bnd (hi ρ2) fun u ρ3 => (look ρ3 i).bind fun x => (fSl x l u).map fun o => (.ok o, ρ3)
theorem sem_slS {tl th : TO} {ml mh : Rho → Option (Rs (Option Int) × Rho)} (hl : SemO G E tl ml) (hh : SemO G E th mh) : Sem G E (tSl (rSlice G.K) (tVar i) tl th) (mSlS i ml mh) := ⟨fun {F H σ ρ α Q} S h => by
  unfold mSlS at h
  cases e : look ρ i with
  | none => rw [e] at h; exact h.elim
  | some d0 =>
    rw [e] at h
    obtain ⟨v, hv, _⟩ := look_x S e
    refine ⟨v, hv, hl.run S (PostG.toO h fun x ρ2 F2 H2 α2 S2 T2 N2 h2 => hh.run S2 (PostG.toO (Post.shift T2 N2 h2) fun y ρ3 F3 H3 α3 S3 T3 N3 h3 => ?_))⟩
    cases e1 : look ρ3 i with
    | none => rw [e1] at h3; exact h3.elim
    | some d1 =>
      rw [e1] at h3
      obtain ⟨v', hv', rx⟩ := look_x S3 e1
      rw [hv] at hv'
      cases hv'
      exact slice_end S3 rx (Post.shift T3 N3 h3)⟩

/-! ### fields -/
def mFld (cs : List Nat) (f : Str) (a : M) : M := fun ρ => bnd (a ρ) fun o ρ1 => match o.frz with
  | .ins c fs => if c ∈ cs then (fs.lookup f).map fun d => (.ok (.val d), ρ1) else none
  | _ => none
theorem repsF_look {F : Hp} {f : Str} : ∀ {fvs : List (Str × V)} {fds : List (Str × D)} {d : D}, RepsF G F fvs fds → fds.lookup f = some d → ∃ v, fvs.lookup f = some v ∧ Rep G F v d
  | _, [], d, h, e => by cases e
  | _, (k, d') :: r, d, h, e => by
    unfold RepsF at h
    obtain ⟨v, vs, rfl, h1, h2⟩ := h
    unfold List.lookup at e ⊢
    split at e
    · rename_i q
      cases e
      exact ⟨v, rfl, h1⟩
    · exact repsF_look h2 e
theorem repsF_none {F : Hp} {f : Str} : ∀ {fvs : List (Str × V)} {fds : List (Str × D)}, RepsF G F fvs fds → fds.lookup f = none → fvs.lookup f = none
  | _, [], h, e => by
    unfold RepsF at h
    subst h
    rfl
  | _, (k, d') :: r, h, e => by
    unfold RepsF at h
    obtain ⟨v, vs, rfl, h1, h2⟩ := h
    unfold List.lookup at e ⊢
    split at e
    · cases e
    · exact repsF_none h2 e
theorem sem_fld {cs : List Nat} {f : Str} (hc : ∀ c ∈ cs, Cls G.K (G.cls c) ∧ NoAttr G.K (G.cls c) f) (ha : Sem G E ta ma) : Sem G E (tFld G.K ta f) (mFld cs f ma) := ⟨fun {F H σ ρ α Q} S h =>
  ha.run S (Post.to h fun o ρ1 v F1 H1 α1 S1 r1 T1 N1 h1 => by
    split at h1
    · rename_i c fs e
      rw [e] at r1
      split at h1
      · rename_i hm
        unfold Rep at r1
        obtain ⟨a, dx, fvs, rfl, e1, e2⟩ := r1
        cases q : fs.lookup f with
        | none => rw [q] at h1; exact h1.elim
        | some d =>
          rw [q] at h1
          obtain ⟨w, hw, rw'⟩ := repsF_look e2 q
          exact ⟨a, _, dx, fvs, w, rfl, S1.ex.x e1, (hc c hm).1, (hc c hm).2, hw, Post.val (Post.shift T1 N1 h1) S1 rw'⟩
      · exact h1.elim
    · exact h1.elim)⟩
/-- .. of what stands in a slot (self, while it is made) -/
def mFldS (cs : List Nat) (f : Str) (i : Nat) : M := fun ρ => (look ρ i).bind fun x => match x with
  | .ins c fs => if c ∈ cs then (fs.lookup f).map fun d => (.ok (.val d), ρ) else none
  | _ => none
theorem sem_fldS {cs : List Nat} {f : Str} (hc : ∀ c ∈ cs, Cls G.K (G.cls c) ∧ NoAttr G.K (G.cls c) f) : Sem G E (tFld G.K (tVar i) f) (mFldS cs f i) := ⟨fun {F H σ ρ α Q} S h => by
  unfold mFldS at h
  cases e : look ρ i with
  | none => rw [e] at h; exact h.elim
  | some d0 =>
    rw [e] at h
    obtain ⟨v, hv, rx⟩ := look_x S e
    dsimp only [Option.bind] at h
    split at h
    · rename_i c fs
      split at h
      · rename_i hm
        obtain ⟨a, dx, fvs, rfl, e1, e2⟩ := rx.i S.ex
        cases q : fs.lookup f with
        | none => rw [q] at h; exact h.elim
        | some d =>
          rw [q] at h
          obtain ⟨w, hw, rw'⟩ := repsF_look e2 q
          exact ⟨_, hv, a, _, dx, fvs, w, rfl, e1, (hc c hm).1, (hc c hm).2, hw, Post.val h S rw'⟩
      · exact h.elim
    · exact h.elim⟩
end
end VL

namespace VL
open PySem PySem.Spec
open PyProof.Rows L2
open Evl (Ex sz_of)

/-! ### an object of one's own is changed -/
section
variable {G : Cn} {E : XK} {F F1 H H1 : Hp} {σ : L2.St} {ρ ρ1 : Rho} {α α1 : Al} {i : Nat}
/-- the slot's object is written at its own address; all else stays -/
theorem Ste.write {o o' : O} {a : Addr} {u : HO} (S : Ste G F H σ ρ α) (ho : ρ[i]? = some (some o)) (ha : a ∈ α i) (hv : ∀ v, σ[i]? = some (some v) → RepO G F H (α i) v o → RepO G F (upd H a u) (α i) v o') : Ste G F (upd H a u) σ (ρ.set i (some o')) α where
  ex := S.ex.mut (S.own ⟨i, ha⟩).1
  len := by rw [List.length_set]; exact S.len
  slot := fun j x e => by
    have hi : i < ρ.length := (List.getElem?_eq_some_iff.mp ho).1
    by_cases hj : j = i
    · subst hj
      rw [List.getElem?_set_self hi] at e
      cases e
      obtain ⟨v, h1, r⟩ := S.slot j o ho
      exact ⟨v, h1, hv v h1 r⟩
    · rw [List.getElem?_set_ne (Ne.symm hj)] at e
      obtain ⟨v, h1, r⟩ := S.slot j x e
      refine ⟨v, h1, r.move (Ex.refl F) (fun b hb => (r.mem b hb).1) fun b hb y hy => ?_⟩
      rw [upd_ne fun z => S.dis j i a hj (by rw [← z]; exact hb) ha]
      exact hy
  off := fun j h => by
    by_cases hj : j = i
    · subst hj
      exact absurd (List.getElem?_set_self (List.getElem?_eq_some_iff.mp ho).1) (h o')
    · exact S.off j fun x e => h x (by rw [List.getElem?_set_ne (Ne.symm hj)]; exact e)
  dis := S.dis
theorem Stp.write {a : Addr} {u : HO} (h : Own α a) : Stp (Own α) F H F (upd H a u) where
  exF := Ex.refl F
  keep := fun b o e n => .inl (by
    rw [upd_ne fun z => n (by rw [z]; exact h)]
    exact e)
  newF := fun b o e => .inl e
/-- what stands in a slot, a list of one's own -/
theorem Ste.slotL {ds : List D} (S : Ste G F H σ ρ α) (h : ρ[i]? = some (some (.lst ds))) : ∃ a vs, σ[i]? = some (some (.ref a)) ∧ α i = [a] ∧ H a = some (.lst vs) ∧ Reps G F vs ds := by
  obtain ⟨v, h1, r⟩ := S.slot i _ h
  obtain ⟨a, vs, rfl, e1, e2, e3, e4⟩ := r
  exact ⟨a, vs, h1, e1, e3, e4⟩
theorem Ste.slotD {ds : List (Key × D)} (S : Ste G F H σ ρ α) (h : ρ[i]? = some (some (.dic ds))) : ∃ a vs, σ[i]? = some (some (.ref a)) ∧ α i = [a] ∧ H a = some (.dK vs) ∧ RepsK G F vs ds := by
  obtain ⟨v, h1, r⟩ := S.slot i _ h
  obtain ⟨a, vs, rfl, e1, e2, e3, e4⟩ := r
  exact ⟨a, vs, h1, e1, e3, e4⟩
theorem Ste.slotI {c : Nat} {fs : List (Str × D)} (S : Ste G F H σ ρ α) (h : ρ[i]? = some (some (.ins c fs))) : ∃ a dx vs, σ[i]? = some (some (.ref a)) ∧ α i = [a, dx] ∧ dx ≠ a ∧ H a = some (.ins (G.cls c) dx vs) ∧ H dx = some (.own a) ∧ RepsF G F vs fs := by
  obtain ⟨v, h1, r⟩ := S.slot i _ h
  obtain ⟨a, dx, vs, rfl, e1, ne, e2, e3, e4, e5, e6⟩ := r
  exact ⟨a, dx, vs, h1, e1, ne, e4, e5, e6⟩
theorem Ste.writeL {ds ds' : List D} {a : Addr} {vs' : List V} (S : Ste G F H σ ρ α) (h : ρ[i]? = some (some (.lst ds))) (ha : α i = [a]) (r : Reps G F vs' ds') : Ste G F (upd H a (.lst vs')) σ (ρ.set i (some (.lst ds'))) α :=
  S.write h (by rw [ha]; simp) fun v hv q => by
    obtain ⟨a', vs, rfl, e1, e2, e3, e4⟩ := q
    rw [ha] at e1
    cases e1
    exact ⟨a, vs', rfl, ha, e2, upd_same, r⟩
theorem Ste.writeD {ds ds' : List (Key × D)} {a : Addr} {vs' : List (Key × V)} (S : Ste G F H σ ρ α) (h : ρ[i]? = some (some (.dic ds))) (ha : α i = [a]) (r : RepsK G F vs' ds') : Ste G F (upd H a (.dK vs')) σ (ρ.set i (some (.dic ds'))) α :=
  S.write h (by rw [ha]; simp) fun v hv q => by
    obtain ⟨a', vs, rfl, e1, e2, e3, e4⟩ := q
    rw [ha] at e1
    cases e1
    exact ⟨a, vs', rfl, ha, e2, upd_same, r⟩
theorem Ste.writeI {c : Nat} {fs fs' : List (Str × D)} {a dx : Addr} {vs' : List (Str × V)} (S : Ste G F H σ ρ α) (h : ρ[i]? = some (some (.ins c fs))) (ha : α i = [a, dx]) (r : RepsF G F vs' fs') : Ste G F (upd H a (.ins (G.cls c) dx vs')) σ (ρ.set i (some (.ins c fs'))) α :=
  S.write h (by rw [ha]; simp) fun v hv q => by
    obtain ⟨a', dx', vs, rfl, e1, ne, e2, e3, e4, e5, e6⟩ := q
    rw [ha] at e1
    cases e1
    exact ⟨a, dx, vs', rfl, ha, ne, e2, e3, upd_same, by rw [upd_ne ne]; exact e5, r⟩
theorem own_of {a : Addr} {l : List Addr} (h : α i = l) (ha : a ∈ l) : Own α a := ⟨i, by rw [h]; exact ha⟩
variable {ta tb : TE} {ma mb : M}
/-- xs.append(e) -/
def mApp (i : Nat) (a : M) : M := fun ρ => match ρ[i]? with
  | some (some (.lst _)) => bnd (a ρ) fun o ρ1 => (match ρ1[i]? with
    | some (some (.lst ds)) => if ds.length < 100000 then some (.ok (.val .non), ρ1.set i (some (.lst (ds ++ [o.frz])))) else none
    | _ => none)
  | _ => none
theorem sem_app (ha : Sem G E ta ma) : Sem G E (tBM G.K "list" rAppend (tVar i) (tCons ta tNil)) (mApp i ma) := ⟨fun {F H σ ρ α Q} S h => by
  unfold mApp at h
  split at h
  · rename_i ds0 e0
    obtain ⟨p, vs0, hv, hp, hh, hr⟩ := S.slotL e0
    refine ⟨.ref p, hv, .inl ⟨rfl, vs0, SqL.of hh⟩, ha.run S (Post.to h fun o ρ1 v F1 H1 α1 S1 r1 T1 N1 h1 => ?_)⟩
    split at h1
    · rename_i ds e1
      split at h1
      · rename_i hl
        obtain ⟨p', vs, hv', hp', hh', hr'⟩ := S1.slotL e1
        rw [hv] at hv'
        cases hv'
        refine ⟨p, vs, v, rfl, rfl, hh', Nat.lt_of_lt_of_le (by rw [hr'.length]; exact hl) (by decide), ?_⟩
        have ow : Own α1 p := own_of hp' (by simp)
        exact Post.shift T1 N1 h1 .non F1 _ α1 [] (S1.writeL e1 hp' (hr'.append (Reps.one r1))) ⟨rfl, Rep.ofNon⟩ (Stp.write ow) (fun _ z => nomatch z) fun a z => by
          rcases z with z | z
          · exact .inl z
          · cases z
      · exact h1.elim
    · exact h1.elim
  · exact h.elim⟩
/-- xs.pop(i) -/
def mPopAt (i : Nat) (a : M) : M := fun ρ => match ρ[i]? with
  | some (some (.lst _)) => bnd (a ρ) fun o ρ1 => (match ρ1[i]?, o.frz with
    | some (some (.lst ds)), .int k => if 0 ≤ k ∧ k < 1000000 then (match ds[k.toNat]? with
      | some d => some (.ok (.val d), ρ1.set i (some (.lst (ds.eraseIdx k.toNat))))
      | none => none) else none
    | _, _ => none)
  | _ => none
theorem sem_popAt (ha : Sem G E ta ma) : Sem G E (tBM G.K "list" rPopAt (tVar i) (tCons ta tNil)) (mPopAt i ma) := ⟨fun {F H σ ρ α Q} S h => by
  unfold mPopAt at h
  split at h
  · rename_i ds0 e0
    obtain ⟨p, vs0, hv, hp, hh, hr⟩ := S.slotL e0
    refine ⟨.ref p, hv, .inl ⟨rfl, vs0, SqL.of hh⟩, ha.run S (Post.to h fun o ρ1 v F1 H1 α1 S1 r1 T1 N1 h1 => ?_)⟩
    split at h1
    · rename_i ds k e1 e2
      rw [e2] at r1
      obtain rfl := r1.toInt
      split at h1
      · rename_i hk
        split at h1
        · rename_i d hd
          obtain ⟨p', vs, hv', hp', hh', hr'⟩ := S1.slotL e1
          rw [hv] at hv'
          cases hv'
          obtain ⟨w, hw, rw'⟩ := hr'.get hd
          have hlt : k.toNat < vs.length := (List.getElem?_eq_some_iff.mp hw).1
          refine ⟨p, vs, k, k.toNat, w, rfl, rfl, hh', by omega, by omega, seqIndex_of hk.1 (by omega), hw, ?_⟩
          have ow : Own α1 p := own_of hp' (by simp)
          exact Post.shift T1 N1 h1 w F1 _ α1 [] (S1.writeL e1 hp' (hr'.erase _)) ⟨rfl, rw'⟩ (Stp.write ow) (fun _ z => nomatch z) fun a z => by
            rcases z with z | z
            · exact .inl z
            · cases z
        · exact h1.elim
      · exact h1.elim
    · exact h1.elim
  · exact h.elim⟩
/-- xs.pop() -/
def mPop (i : Nat) : M := fun ρ => match ρ[i]? with
  | some (some (.lst ds)) => (match ds[ds.length - 1]? with
    | some d => some (.ok (.val d), ρ.set i (some (.lst ds.dropLast)))
    | none => none)
  | _ => none
theorem reps_dropLast {vs : List V} {ds : List D} (h : Reps G F vs ds) : Reps G F vs.dropLast ds.dropLast := by
  rw [List.dropLast_eq_take, List.dropLast_eq_take, h.length]
  exact h.take _
theorem sem_pop : Sem G E (tBM0 G.K "list" rPop (tVar i)) (mPop i) := ⟨fun {F H σ ρ α Q} S h => by
  unfold mPop at h
  split at h
  · rename_i ds e0
    split at h
    · rename_i d hd
      obtain ⟨p, vs, hv, hp, hh, hr⟩ := S.slotL e0
      obtain ⟨w, hw, rw'⟩ := hr.get hd
      refine ⟨.ref p, hv, .inl ⟨rfl, vs, SqL.of hh⟩, p, vs, w, rfl, rfl, hh, by rw [hr.length]; exact hw, ?_⟩
      have ow : Own α p := own_of hp (by simp)
      exact h w F _ α [] (S.writeL e0 hp (reps_dropLast hr)) ⟨rfl, rw'⟩ (Stp.write ow) (fun _ z => nomatch z) fun a z => by
        rcases z with z | z
        · exact .inl z
        · cases z
    · exact h.elim
  · exact h.elim⟩
/-- xs.extend(ys) -/
def mExt (i : Nat) (a : M) : M := fun ρ => match ρ[i]? with
  | some (some (.lst _)) => bnd (a ρ) fun o ρ1 => (match ρ1[i]?, o.frz with
    | some (some (.lst ds)), .lst es => if ds.length + es.length ≤ 100000 then some (.ok (.val .non), ρ1.set i (some (.lst (ds ++ es)))) else none
    | _, _ => none)
  | _ => none
theorem sem_ext (ha : Sem G E ta ma) : Sem G E (tBM G.K "list" rExtend (tVar i) (tCons ta tNil)) (mExt i ma) := ⟨fun {F H σ ρ α Q} S h => by
  unfold mExt at h
  split at h
  · rename_i ds0 e0
    obtain ⟨p, vs0, hv, hp, hh, hr⟩ := S.slotL e0
    refine ⟨.ref p, hv, .inl ⟨rfl, vs0, SqL.of hh⟩, ha.run S (Post.to h fun o ρ1 v F1 H1 α1 S1 r1 T1 N1 h1 => ?_)⟩
    split at h1
    · rename_i ds es e1 e2
      rw [e2] at r1
      unfold Rep at r1
      obtain ⟨b, ws, rfl, hb, hrw⟩ := r1
      split at h1
      · rename_i hl
        obtain ⟨p', vs, hv', hp', hh', hr'⟩ := S1.slotL e1
        rw [hv] at hv'
        cases hv'
        refine ⟨p, b, vs, ws, rfl, rfl, hh', S1.ex.x hb, sz_of (by rw [hr'.length, hrw.length]; exact hl), ?_⟩
        have ow : Own α1 p := own_of hp' (by simp)
        exact Post.shift T1 N1 h1 .non F1 _ α1 [] (S1.writeL e1 hp' (hr'.append hrw)) ⟨rfl, Rep.ofNon⟩ (Stp.write ow) (fun _ z => nomatch z) fun a z => by
          rcases z with z | z
          · exact .inl z
          · cases z
      · exact h1.elim
    · exact h1.elim
  · exact h.elim⟩
/-- xs[i] = e, d[k] = e -/
def keyD : D → Option Key
  | .int i => some (.inl i)
  | .str x => some (.inr x)
  | _ => none
def getK (kds : List (Key × D)) (k : Key) : Option D := (kds.find? fun kv => decide (kv.1 = k)).map (·.2)
def putD (kds : List (Key × D)) (k : Key) (d : D) : List (Key × D) := if (kds.any fun kv => decide (kv.1 = k)) = true then kds.map fun kv => if kv.1 = k then (kv.1, d) else kv else kds ++ [(k, d)]
end
end VL

namespace VL
open PySem PySem.Spec
open PyProof.Rows L2
open Evl (Ex sz_of)

section
variable {G : Cn} {E : XK} {F F1 H H1 : Hp} {σ : L2.St} {ρ ρ1 : Rho} {α α1 : Al} {i : Nat} {ta tb : TE} {ma mb : M}
/-! ### dicts with int and text keys -/
theorem RepsK.nil : RepsK G F [] [] := by unfold RepsK; rfl
theorem RepsK.cons {k : Key} {v : V} {d : D} {vs : List (Key × V)} {ds : List (Key × D)} (h : Rep G F v d) (t : RepsK G F vs ds) : RepsK G F ((k, v) :: vs) ((k, d) :: ds) := by
  unfold RepsK
  exact ⟨v, vs, rfl, h, t⟩
theorem RepsK.of_nil {vs : List (Key × V)} (h : RepsK G F vs []) : vs = [] := by
  unfold RepsK at h
  exact h
theorem RepsK.of_cons {vs : List (Key × V)} {k : Key} {d : D} {ds : List (Key × D)} (h : RepsK G F vs ((k, d) :: ds)) : ∃ v r, vs = (k, v) :: r ∧ Rep G F v d ∧ RepsK G F r ds := by
  unfold RepsK at h
  exact h
theorem RepsK.length : ∀ {vs : List (Key × V)} {ds : List (Key × D)}, RepsK G F vs ds → vs.length = ds.length
  | _, [], h => by
    rw [h.of_nil]
    rfl
  | _, (k, d) :: ds, h => by
    obtain ⟨v, r, rfl, _, t⟩ := h.of_cons
    rw [List.length_cons, List.length_cons, RepsK.length t]
theorem RepsK.get (k : Key) : ∀ {vs : List (Key × V)} {ds : List (Key × D)}, RepsK G F vs ds → (∀ d, getK ds k = some d → ∃ v, valV vs k = some v ∧ Rep G F v d) ∧ (getK ds k = none → valV vs k = none)
  | _, [], h => by
    rw [h.of_nil]
    exact ⟨fun d e => (by cases e), fun _ => rfl⟩
  | _, (j, d0) :: ds, h => by
    obtain ⟨v, r, rfl, h1, t⟩ := h.of_cons
    have ih := RepsK.get k t
    by_cases e : j = k
    · have e1 : getK ((j, d0) :: ds) k = some d0 := by simp [getK, List.find?_cons, e]
      have e2 : valV ((j, v) :: r) k = some v := by simp [valV, List.find?_cons, e]
      rw [e1, e2]
      exact ⟨fun d q => ⟨v, rfl, by cases q; exact h1⟩, fun q => by cases q⟩
    · have e1 : getK ((j, d0) :: ds) k = getK ds k := by simp [getK, List.find?_cons, e]
      have e2 : valV ((j, v) :: r) k = valV r k := by simp [valV, List.find?_cons, e]
      rw [e1, e2]
      exact ih
theorem RepsK.any (p : Key → Bool) : ∀ {vs : List (Key × V)} {ds : List (Key × D)}, RepsK G F vs ds → (vs.any fun kv => p kv.1) = ds.any fun kv => p kv.1
  | _, [], h => by
    rw [h.of_nil]
    rfl
  | _, (j, d0) :: ds, h => by
    obtain ⟨v, r, rfl, h1, t⟩ := h.of_cons
    rw [List.any_cons, List.any_cons, RepsK.any p t]
theorem RepsK.map {k : Key} {v : V} {d : D} (q : Rep G F v d) : ∀ {vs : List (Key × V)} {ds : List (Key × D)}, RepsK G F vs ds → RepsK G F (vs.map fun kv => if kv.1 = k then (kv.1, v) else kv) (ds.map fun kv => if kv.1 = k then (kv.1, d) else kv)
  | _, [], h => by
    rw [h.of_nil]
    exact RepsK.nil
  | _, (j, d0) :: ds, h => by
    obtain ⟨w, r, rfl, h1, t⟩ := h.of_cons
    rw [List.map_cons, List.map_cons]
    by_cases e : j = k
    · rw [if_pos e, if_pos e]
      exact RepsK.cons q (RepsK.map q t)
    · rw [if_neg e, if_neg e]
      exact RepsK.cons h1 (RepsK.map q t)
theorem RepsK.snoc {k : Key} {v : V} {d : D} (q : Rep G F v d) : ∀ {vs : List (Key × V)} {ds : List (Key × D)}, RepsK G F vs ds → RepsK G F (vs ++ [(k, v)]) (ds ++ [(k, d)])
  | _, [], h => by
    rw [h.of_nil]
    exact RepsK.cons q RepsK.nil
  | _, (j, d0) :: ds, h => by
    obtain ⟨w, r, rfl, h1, t⟩ := h.of_cons
    exact RepsK.cons h1 (RepsK.snoc q t)
theorem RepsK.put {k : Key} {v : V} {d : D} {vs : List (Key × V)} {ds : List (Key × D)} (h : RepsK G F vs ds) (q : Rep G F v d) : RepsK G F (putK vs k v) (putD ds k d) := by
  unfold putK putD
  rw [h.any fun j => decide (j = k)]
  split
  · exact h.map q
  · exact h.snoc q
theorem key_x {v : V} {d : D} {k : Key} (h : RepX G F H v d) (e : keyD d = some k) : v = kV k := by
  unfold keyD at e
  split at e
  · cases e
    rw [h.int]
    rfl
  · cases e
    rw [h.str]
    rfl
  · cases e
/-- d[k], k in d, k not in d as operators by values -/
def rDGet : R2 := fun x y H Q => ∃ a v, x = .ref a ∧ DGet H a y (some v) ∧ Q v H
def rDIn (neg : Bool) : R2 := fun y x H Q => ∃ a o, x = .ref a ∧ DGet H a y o ∧ Q (.bl (if neg = true then !o.isSome else o.isSome)) H
def fDGet (x y : D) : Option O := match x, keyD y with
  | .dic kds, some k => (getK kds k).map .val
  | _, _ => none
def fDIn (neg : Bool) (y x : D) : Option O := match x, keyD y with
  | .dic kds, some k => some (.val (.bl (if neg = true then !(getK kds k).isSome else (getK kds k).isSome)))
  | _, _ => none
theorem os_dget : OSem G rDGet fDGet := fun {E F H σ ρ α Q x y dx dy} S hx hy h => by
  unfold fDGet at h
  split at h
  · rename_i kds k e
    obtain ⟨a, vs, rfl, h1, h2⟩ := hx.k S.ex
    obtain rfl := key_x hy e
    cases q : getK kds k with
    | none => rw [q] at h; exact h.elim
    | some d =>
      rw [q] at h
      obtain ⟨v, e1, r⟩ := (h2.get k).1 d q
      refine ⟨a, v, rfl, ?_, Post.val h S r⟩
      rw [← e1]
      exact .inl ⟨vs, k, h1, rfl, rfl⟩
  · exact h.elim
theorem os_din {neg : Bool} : OSem G (rDIn neg) (fDIn neg) := fun {E F H σ ρ α Q x y dx dy} S hx hy h => by
  unfold fDIn at h
  split at h
  · rename_i kds k e
    obtain ⟨a, vs, rfl, h1, h2⟩ := hy.k S.ex
    obtain rfl := key_x hx e
    refine ⟨a, valV vs k, rfl, .inl ⟨vs, k, h1, rfl, rfl⟩, ?_⟩
    have e1 : (valV vs k).isSome = (getK kds k).isSome := by
      cases q : getK kds k with
      | none => rw [(h2.get k).2 q]; rfl
      | some d =>
        obtain ⟨v, e1, _⟩ := (h2.get k).1 d q
        rw [e1]
        rfl
    rw [e1]
    exact Post.val h S Rep.ofBl
  · exact h.elim
/-- two rules for one operator -/
def fOr (f g : D → D → Option O) (x y : D) : Option O := match f x y with
  | some o => some o
  | none => g x y
theorem os_or {r r' : R2} {f g : D → D → Option O} (h1 : OSem G r f) (h2 : OSem G r' g) : OSem G (fun x y H Q => r x y H Q ∨ r' x y H Q) (fOr f g) := fun {E F H σ ρ α Q x y dx dy} S hx hy h => by
  unfold fOr at h
  split at h
  · rename_i o e
    exact .inl (h1 S hx hy (by rw [e]; exact h))
  · exact .inr (h2 S hx hy h)
def fOr1 (f g : List D → Option O) (ds : List D) : Option O := match f ds with
  | some o => some o
  | none => g ds
theorem cs_or {r r' : List V → Hp → VK → Prop} {f g : List D → Option O} (h1 : CSem G r f) (h2 : CSem G r' g) : CSem G (fun xs H Q => r xs H Q ∨ r' xs H Q) (fOr1 f g) := fun {E F H σ ρ α Q vs ds} S hv h => by
  unfold fOr1 at h
  split at h
  · rename_i o e
    exact .inl (h1 S hv (by rw [e]; exact h))
  · exact .inr (h2 S hv h)
/-- {} -/
def mDNew : M := fun ρ => some (.ok (.dic []), ρ)
theorem sem_dnew : Sem G E tDNewK mDNew := ⟨fun {F H σ ρ α Q} S h p hp => Post.newD h S hp RepsK.nil⟩
/-- d[k] = e, d in a slot -/
def sDPutM (i : Nat) (k v : M) : MS := fun _ ρ => bnd (v ρ) fun o ρ1 => (look ρ1 i).bind fun _ => bnd (k ρ1) fun x ρ2 => match ρ2[i]?, keyD x.frz with
  | some (some (.dic kds)), some key => if kds.length < 100000 then some (.ok .nx, ρ2.set i (some (.dic (putD kds key o.frz)))) else none
  | _, _ => none
theorem semS_dput {tk tv : TE} {mk mv : M} (hk : Sem G E tk mk) (hv : Sem G E tv mv) : SemS G E (sDPut (tVar i) tk tv) (sDPutM i mk mv) := ⟨fun {F H σ ρ α D pins} S h =>
  hv.run S (Post.to h fun o ρ1 v F1 H1 α1 S1 r1 T1 N1 h1 => by
    cases e : look ρ1 i with
    | none => rw [e] at h1; exact h1.elim
    | some d0 =>
      rw [e] at h1
      obtain ⟨u, hu, _⟩ := look_x S1 e
      refine ⟨u, hu, hk.run S1 (Post.to (PostS.shift T1 N1 .refl h1) fun x ρ2 w F2 H2 α2 S2 r2 T2 N2 h2 => ?_)⟩
      split at h2
      · rename_i kds key e1 e2
        split at h2
        · rename_i hl
          obtain ⟨p, vs, hv', hp, hh, hr⟩ := S2.slotD e1
          rw [hu] at hv'
          cases hv'
          obtain rfl := key_x (H := H2) (.inl r2) e2
          have ow : Own α2 p := own_of hp (by simp)
          refine ⟨p, _, rfl, DPut.k hh (Nat.lt_of_lt_of_le (by rw [hr.length]; exact hl) (by decide)), ?_⟩
          exact PostS.shift T2 N2 .refl h2 σ F2 _ α2 (S2.writeD e1 hp (hr.put (r1.mono T2.exF))) (Stp.write ow) .refl .refl
        · exact h2.elim
      · exact h2.elim)⟩
/-- xs[j] = e, xs in a slot -/
def sSetM (i : Nat) (k v : M) : MS := fun _ ρ => bnd (v ρ) fun o ρ1 => (look ρ1 i).bind fun _ => bnd (k ρ1) fun x ρ2 => match ρ2[i]?, x.frz with
  | some (some (.lst ds)), .int j => (match ixN ds.length j with
    | some n => some (.ok .nx, ρ2.set i (some (.lst (ds.set n o.frz))))
    | none => none)
  | _, _ => none
theorem semS_set {tk tv : TE} {mk mv : M} (hk : Sem G E tk mk) (hv : Sem G E tv mv) : SemS G E (tAsg tv (gSub (tVar i) tk rSetL)) (sSetM i mk mv) := ⟨fun {F H σ ρ α D pins} S h =>
  hv.run S (Post.to h fun o ρ1 v F1 H1 α1 S1 r1 T1 N1 h1 => by
    cases e : look ρ1 i with
    | none => rw [e] at h1; exact h1.elim
    | some d0 =>
      rw [e] at h1
      obtain ⟨u, hu, _⟩ := look_x S1 e
      refine ⟨u, hu, hk.run S1 (Post.to (PostS.shift T1 N1 .refl h1) fun x ρ2 w F2 H2 α2 S2 r2 T2 N2 h2 => ?_)⟩
      split at h2
      · rename_i ds j e1 e2
        rw [e2] at r2
        obtain rfl := r2.toInt
        split at h2
        · rename_i n hn
          obtain ⟨p, vs, hv', hp, hh, hr⟩ := S2.slotL e1
          rw [hu] at hv'
          cases hv'
          have ow : Own α2 p := own_of hp (by simp)
          refine ⟨p, vs, j, n, rfl, rfl, hh, by rw [hr.length]; exact hn, ?_⟩
          exact PostS.shift T2 N2 .refl h2 σ F2 _ α2 (S2.writeL e1 hp (hr.set (r1.mono T2.exF) n)) (Stp.write ow) .refl .refl
        · exact h2.elim
      · exact h2.elim)⟩
/-- self.f = e, self in a slot, of the class c -/
def putFD (f : Str) (d : D) : List (Str × D) → List (Str × D)
  | [] => [(f, d)]
  | (g, x) :: r => if g = f then (g, d) :: r else (g, x) :: putFD f d r
theorem RepsF.nil : RepsF G F [] [] := by unfold RepsF; rfl
theorem RepsF.length : ∀ {vs : List (Str × V)} {ds : List (Str × D)}, RepsF G F vs ds → vs.length = ds.length
  | _, [], h => by
    unfold RepsF at h
    subst h
    rfl
  | _, (k, d) :: ds, h => by
    unfold RepsF at h
    obtain ⟨v, r, rfl, _, t⟩ := h
    rw [List.length_cons, List.length_cons, RepsF.length t]
theorem RepsF.put {f : Str} {v : V} {d : D} (q : Rep G F v d) : ∀ {vs : List (Str × V)} {ds : List (Str × D)}, RepsF G F vs ds → RepsF G F (putF f v vs) (putFD f d ds)
  | _, [], h => by
    unfold RepsF at h
    subst h
    unfold putF putFD RepsF
    exact ⟨v, [], rfl, q, RepsF.nil⟩
  | _, (k, d0) :: ds, h => by
    unfold RepsF at h
    obtain ⟨w, r, rfl, h1, t⟩ := h
    unfold putF putFD
    by_cases e : k = f
    · rw [if_pos e, if_pos e]
      unfold RepsF
      exact ⟨v, r, rfl, q, t⟩
    · rw [if_neg e, if_neg e]
      unfold RepsF
      exact ⟨w, _, rfl, h1, RepsF.put q t⟩
def sFldM (cs : List Nat) (f : Str) (i : Nat) (a : M) : MS := fun _ ρ => bnd (a ρ) fun o ρ1 => match ρ1[i]? with
  | some (some (.ins c fs)) => if c ∈ cs ∧ fs.length < 900 then some (.ok .nx, ρ1.set i (some (.ins c (putFD f o.frz fs)))) else none
  | _ => none
theorem semS_fld {cs : List Nat} {f : Str} (hc : ∀ c ∈ cs, Cls G.K (G.cls c) ∧ NoAttr G.K (G.cls c) f) (ha : Sem G E ta ma) : SemS G E (sFld G.K (tVar i) ta f) (sFldM cs f i ma) := ⟨fun {F H σ ρ α D pins} S h =>
  ha.run S (Post.to h fun o ρ1 v F1 H1 α1 S1 r1 T1 N1 h1 => by
    split at h1
    · rename_i c fs e
      split at h1
      · rename_i hm
        obtain ⟨a, dx, vs, hv, hp, ne, hh, hd, hr⟩ := S1.slotI e
        have ow : Own α1 a := own_of hp (by simp)
        refine ⟨.ref a, hv, a, G.cls c, dx, vs, rfl, hh, (hc c hm.1).1, (hc c hm.1).2, by rw [hr.length]; omega, ?_⟩
        exact PostS.shift T1 N1 .refl h1 σ F1 _ α1 (S1.writeI e hp (hr.put r1)) (Stp.write ow) .refl .refl
      · exact h1.elim
    · exact h1.elim)⟩

/-! ### a new instance -/
def mMake (c : Nat) (fn : Fn) (ms ks : MA) (arr : List D → List D → List D) (n m : Nat) : M := fun ρ => bnd (ms ρ) fun ais ρ1 => bnd (ks ρ1) fun kws ρ2 => match dsOnly ais, dsOnly kws with
  | some ds, some zs => if ds.length = n ∧ zs.length = m then (match fn (.ins c [] :: (arr ds zs).map .val) with
    | some (.ok (.val .non), o :: _) => some (.ok o, ρ2)
    | some (.ex c fs, _) => some (.ex c fs, ρ2)
    | _ => none) else none
  | _, _ => none
theorem make_end {c : Nat} {fn : Fn} {np : Nat} {Q : VK} {ws : List V} {es : List D} (hl : ∀ os r, fn os = some r → os.length = np) (S : Ste G F H σ ρ α) (r : Reps G F ws es)
    (h : Post G E F H σ α (match fn (.ins c [] :: es.map .val) with
      | some (.ok (.val .non), o :: _) => some (.ok o, ρ)
      | some (.ex c fs, _) => some (.ex c fs, ρ)
      | _ => none) Q) : ∀ x dx, H x = none → H dx = none → dx ≠ x → spF G fn np (.ref x :: ws) (upd (upd H dx (.own x)) x (.ins (G.cls c) dx [])) (fun v H3 => v = .non ∧ Q (.ref x) H3) E := fun x dx hx hdx ne => by
  have exH : Ex H (upd (upd H dx (.own x)) x (.ins (G.cls c) dx [])) := fun b o e => by
    rw [upd_ne (ne_of_none e hx), upd_ne (ne_of_none e hdx)]
    exact e
  have fx := S.fresh hx
  have fdx := S.fresh hdx
  have S0 : Ste G F (upd (upd H dx (.own x)) x (.ins (G.cls c) dx [])) [some (.ref x)] [some (O.ins c [])] (fun j => if j = 0 then [x, dx] else []) := ⟨S.ex.post exH, rfl, fun i o e => by
      cases i with
      | zero =>
        have : O.ins c [] = o := by simpa using e
        subst this
        refine ⟨.ref x, rfl, x, dx, [], rfl, if_pos rfl, ne, fx, fdx, upd_same, ?_, RepsF.nil⟩
        rw [upd_ne ne]
        exact upd_same
      | succ i => simp at e, fun i h => by
      cases i with
      | zero => exact absurd rfl (h (O.ins c []))
      | succ i => exact if_neg (by omega), fun i j a nij hi hj => by
      have hi' : a ∈ (if i = 0 then [x, dx] else []) := hi
      have hj' : a ∈ (if j = 0 then [x, dx] else []) := hj
      split at hi'
      · split at hj'
        · omega
        · cases hj'
      · cases hi'⟩
  have SA := Ste.args1 (i := 0) (ws := []) (pre := []) S0 Reps.nil rfl rfl r
  match q : fn (.ins c [] :: es.map .val), h with
  | none, h => exact h.elim
  | some (rr, os'), h =>
    refine ⟨by rw [← hl _ _ q]; simp [r.length], F, .ins c [] :: es.map .val, _, SA, ?_⟩
    rw [q]
    have ow : ∀ a, Own (fun j => if j = ([] : List D).length then (fun j => if j = 0 then [x, dx] else []) 0 else []) a → a = x ∨ a = dx := fun a ⟨j, z⟩ => by
      have z' : a ∈ (if j = 0 then [x, dx] else ([] : List Addr)) := z
      split at z'
      · simpa using z'
      · cases z'
    have hnone : ∀ a, a = x ∨ a = dx → H a = none := fun a z => by
      rcases z with rfl | rfl
      · exact hx
      · exact hdx
    have tr : ∀ {F' H' : Hp}, Stp (Own (fun j => if j = ([] : List D).length then (fun j => if j = 0 then [x, dx] else []) 0 else [])) F (upd (upd H dx (.own x)) x (.ins (G.cls c) dx [])) F' H' → Kpt F H H' ∧ (∀ b u, F' b = some u → F b = some u ∨ H b = none) := fun {F' H'} T => by
      refine ⟨fun b u e => T.keep b u (exH b u e) fun z => ?_, fun b u e => ?_⟩
      · rw [hnone b (ow b z)] at e
        cases e
      · rcases T.newF b u e with z | z | z
        · exact .inl z
        · exact .inr (exH.back z)
        · exact .inr (hnone b (ow b z))
    have stp : ∀ {F' H' : Hp}, Stp (Own (fun j => if j = ([] : List D).length then (fun j => if j = 0 then [x, dx] else []) 0 else [])) F (upd (upd H dx (.own x)) x (.ins (G.cls c) dx [])) F' H' → Stp (Own α) F H F' H' := fun {F' H'} T =>
      ⟨T.exF, fun b u e _ => (tr T).1 b u e, fun b u e => ((tr T).2 b u e).elim .inl fun z => .inr (.inl z)⟩
    match rr, os', h with
    | .ex c2 none, _, h => exact fun F' H' T' => h F' H' (stp T')
    | .ex c2 (some fs), _, h => exact fun F' H' dd fvs T' => h F' H' dd fvs (stp T')
    | .ok (.val .non), o :: rest, h =>
      exact fun v' F' H' α' β S' R' T' M' N' => by
        refine ⟨by obtain ⟨_, r0⟩ := R'; unfold Rep at r0; exact r0, ?_⟩
        obtain ⟨w, hw, rw'⟩ := S'.slot 0 o rfl
        have hw' : w = .ref x := by
          have : (some (some (V.ref x))) = some (some w) := hw
          cases this
          rfl
        subst hw'
        obtain ⟨t1, t2⟩ := tr T'
        refine h (.ref x) F' H' α (α' 0) (S.grow T'.exF t1 t2 S'.ex) rw' (stp T') (fun a ha z => ?_) fun a z => ?_
        · obtain ⟨f0, _⟩ := rw'.mem a ha
          rcases N' a (.inl ⟨0, ha⟩) with y | y
          · exact S.notown (hnone a (ow a y)) z
          · exact S.notown (exH.back y) z
        · rcases z with z | z
          · exact .inl z
          · rcases N' a (.inl ⟨0, z⟩) with y | y
            · exact .inr (hnone a (ow a y))
            · exact .inr (exH.back y)
theorem sem_makeK {c : Nat} {fn : Fn} {np n m : Nat} {t tk : TA} {ms ks : MA} {gV : List V → List V → List V} {arrV : List V → List V → List V} {arr : List D → List D → List D} (hl : ∀ os r, fn os = some r → os.length = np)
    (hg : ∀ x vs zs, vs.length = n → zs.length = m → gV (.ref x :: vs) zs = .ref x :: arrV vs zs) (hr : ∀ {F : Hp} {vs zs : List V} {ds es : List D}, vs.length = n → zs.length = m → Reps G F vs ds → Reps G F zs es → Reps G F (arrV vs zs) (arr ds es)) (ha : SemA G E t ms) (hk : SemA G E tk ks) :
    Sem G E (tMakeK (G.cls c) n m (spF G fn np) gV E t tk) (mMake c fn ms ks arr n m) := ⟨fun {F H σ ρ α Q} S h =>
  ha.run S (PostA.to h fun xs ρ1 vs F1 H1 α1 S1 r1 T1 N1 h1 => hk.run S1 (PostA.to (Post.shift T1 N1 h1) fun ys ρ2 zs F2 H2 α2 S2 r2 T2 N2 h2 => by
    split at h2
    · rename_i ds es e1 e2
      split at h2
      · rename_i hn
        have q1 := dsOnly_r (r1.mono T2.exF) e1
        have q2 := dsOnly_r r2 e2
        have l1 : vs.length = n := q1.length.trans hn.1
        have l2 : zs.length = m := q2.length.trans hn.2
        refine ⟨l1, l2, fun x dx hx hdx ne => ?_⟩
        rw [hg x vs zs l1 l2]
        exact make_end hl S2 (hr l1 l2 q1 q2) (Post.shift T2 N2 h2) x dx hx hdx ne
      · exact h2.elim
    · exact h2.elim))⟩
theorem sem_make {c : Nat} {fn : Fn} {np n : Nat} {t : TA} {ms : MA} {dvs : List V} {dds : List D} (hl : ∀ os r, fn os = some r → os.length = np) (hd : ∀ F, Reps G F dvs dds) (ha : SemA G E t ms) :
    Sem G E (tMake (G.cls c) (spF G fn np) dvs E t) (mMake c fn ms aNil (fun ds _ => ds ++ dds) n 0) := ⟨fun {F H σ ρ α Q} S h =>
  ha.run S (PostA.to h fun xs ρ1 vs F1 H1 α1 S1 r1 T1 N1 h1 => by
    have h2 : Post G E F H σ α (match dsOnly xs, (some [] : Option (List D)) with
      | some ds, some zs => if ds.length = n ∧ zs.length = 0 then (match fn (.ins c [] :: (ds ++ dds).map .val) with
        | some (.ok (.val .non), o :: _) => some (.ok o, ρ1)
        | some (.ex c fs, _) => some (.ex c fs, ρ1)
        | _ => none) else none
      | _, _ => none) Q := h1
    split at h2
    · rename_i ds es e1 e2
      split at h2
      · exact make_end hl S1 ((dsOnly_r r1 e1).append (hd _)) (Post.shift T1 N1 h2)
      · exact h2.elim
    · exact h2.elim)⟩
end
end VL

namespace VL
open PySem PySem.Spec
open PyProof.Rows L2
open Evl (Ex sz_of)

/-! ### what an iterator may be over: a tuple, a list, a text -/
structure Src where
  o : Obj
  ex : List Addr
  ci : Addr → Nat → Heap → Prop
  ini : ∀ h it, h.get? it = some o → ci it 0 h
  mov : ∀ h h' it i, ci it i h → (∀ o, h.get? it = some o → h'.get? it = some o) → ci it i h'
  liv : ∀ h it i, ci it i h → ∃ o, h.get? it = some o ∧ ∀ v, o.data ≠ .cell v
/-- the source stands in this heap, with these items -/
def SrcH (P : Program) (w : World) (S : Src) (v : Value) (xs : List V) (h : Heap) : Prop :=
  ∃ hc : Heap → Prop, hc h ∧ Begins v S.o hc ∧ (∀ b ∈ S.ex, b < h.objs.size) ∧ ∀ (A : Around) (it : Addr), A.handled = none → it ∉ S.ex → Draws P w A it (it :: S.ex) xs.length (fun i u => ∃ x, xs[i]? = some x ∧ RelV x u) (fun i h => S.ci it i h ∧ hc h)
theorem Vals.get1 : ∀ {xs : List V} {us : List Value} {i : Nat} {u : Value}, Vals xs us → us[i]? = some u → ∃ x, xs[i]? = some x ∧ RelV x u := fun {xs us i u} r e => by
  have l := r.length
  have hi := (List.getElem?_eq_some_iff.mp e).1
  obtain ⟨x, hx⟩ : ∃ x, xs[i]? = some x := ⟨xs[i]'(by omega), List.getElem?_eq_getElem (by omega)⟩
  obtain ⟨u', h1, h2⟩ := r.get hx
  rw [e] at h1
  cases h1
  exact ⟨x, hx, h2⟩
theorem drWeak {prog : Program} {w : World} {A : Around} {it : Addr} {fp : List Addr} {n m : Nat} {P P' : Nat → Value → Prop} {St : Nat → Heap → Prop} (D : Draws prog w A it fp n P St) (hn : n = m) (h : ∀ i x, i < n → P i x → P' i x) : Draws prog w A it fp m P' St := by
  subst hn
  exact ⟨D.live, D.frame, fun i s Q E hi st hQ => D.item i s Q E hi st fun x h' tk hP st' sb => hQ x h' tk (h i x hi hP) st' sb, D.done⟩
def srcTup (a : Addr) : Src where
  o := { cls := .type "tuple_iterator", data := .fields #[.ref a, .int 0 0] }
  ex := [a]
  ci := fun it i h => h.IsTupleIter it a i
  ini := fun h it e => ⟨_, e, rfl, rfl⟩
  mov := fun h h' it i x k => x.at fun o e => k o e
  liv := fun h it i ⟨o, e, _, d⟩ => ⟨o, e, fun v q => by rw [d] at q; cases q⟩
def srcLst (a : Addr) : Src where
  o := { cls := .type "list_iterator", data := .fields #[.ref a, .int 0 0] }
  ex := [a]
  ci := fun it i h => h.IsListIter it a i
  ini := fun h it e => ⟨_, e, rfl, rfl⟩
  mov := fun h h' it i x k => x.at fun o e => k o e
  liv := fun h it i ⟨o, e, _, d⟩ => ⟨o, e, fun v q => by rw [d] at q; cases q⟩
def srcStr (x : Str) (t : Tok) : Src where
  o := { cls := .type (strIterType x), data := .fields #[.str x t, .int 0 0] }
  ex := []
  ci := fun it i h => h.IsStrIter it (strIterType x) x t i
  ini := fun h it e => ⟨_, e, rfl, rfl⟩
  mov := fun h h' it i ⟨o, e, r⟩ k => ⟨o, k o e, r⟩
  liv := fun h it i ⟨o, e, _, d⟩ => ⟨o, e, fun v q => by rw [d] at q; cases q⟩
def signs (x : Str) : List V := x.cps.toList.map fun c => V.str ⟨#[c]⟩
theorem srcH_tup {P : Program} {w : World} {a : Addr} {xs : List V} {its : List Value} {h : Heap} (r : Vals xs its) (e : h.IsTuple a its.toArray) : SrcH P w (srcTup a) (.ref a) xs h :=
  ⟨fun h => h.IsTuple a its.toArray, e, begins_tuple a its.toArray, fun b hb => by
    obtain rfl : b = a := by simpa [srcTup] using hb
    obtain ⟨o, e, _⟩ := e
    exact Heap.lt_size e, fun A it hh ne => drWeak (Draws.tuple hh it a (fun e => ne (by simp [srcTup, e])) its.toArray) (by simp [r.length]) fun i u _ e => Vals.get1 r (by simpa using e)⟩
theorem srcH_lst {P : Program} {w : World} {a : Addr} {xs : List V} {its : List Value} {h : Heap} (r : Vals xs its) (e : h.IsList a its.toArray) : SrcH P w (srcLst a) (.ref a) xs h :=
  ⟨fun h => h.IsList a its.toArray, e, begins_list a its.toArray, fun b hb => by
    obtain rfl : b = a := by simpa [srcLst] using hb
    obtain ⟨o, e, _⟩ := e
    exact Heap.lt_size e, fun A it hh ne => drWeak (Draws.list hh it a (fun e => ne (by simp [srcLst, e])) its.toArray) (by simp [r.length]) fun i u _ e => Vals.get1 r (by simpa using e)⟩
theorem srcH_str {P : Program} {w : World} {x : Str} {t : Tok} {h : Heap} : SrcH P w (srcStr x t) (.str x t) (signs x) h :=
  ⟨fun _ => True, trivial, begins_text x t, (fun b hb => nomatch hb), fun A it hh ne => by
    have D := drWeak (Draws.text (prog := P) (w := w) hh it x t) (m := (signs x).length) (P' := fun i u => ∃ y, (signs x)[i]? = some y ∧ RelV y u) (by simp [signs]) fun i u _ ⟨c, t', e, eu⟩ => ⟨.str ⟨#[c]⟩, by
      unfold signs
      rw [List.getElem?_map, show x.cps.toList[i]? = some c by simpa using e]
      rfl, by rw [eu]; exact ⟨t', rfl⟩⟩
    exact ⟨fun i h st => D.live i h st.1, fun i h h' st k => ⟨D.frame i h h' st.1 fun b hb => k b hb, trivial⟩, fun i s Q E hi st hQ => D.item i s Q E hi st.1 fun y h' tk hP st' sb => hQ y h' tk hP ⟨st', trivial⟩ sb, fun s Q E st => D.done s Q E st.1⟩⟩

/-- items in new pairs, from two sources that stand while G stands -/
def ItP (xs ys : List V) (Gd : Hp → Prop) : It :=
  ⟨fun i H => Gd H ∧ i < xs.length ∧ i < ys.length, fun i H v H' => ∃ T x y, v = .ref T ∧ H T = none ∧ H' = upd H T (.tup [x, y]) ∧ xs[i]? = some x ∧ ys[i]? = some y,
    fun i H => Gd H ∧ (xs.length ≤ i ∨ ys.length ≤ i)⟩
/-- Gd says that the source stands -/
def SrcIn (X : Cx) (S : Src) (v : Value) (xs : List V) (Gd : Hp → Prop) : Prop :=
  ∀ (pins : List (Addr × Obj)) (σ : L2.St) (H : Hp) (s : Shared), Inv X pins σ H s → Gd H → SrcH X.prog X.w S v xs s.heap
end VL

namespace VL
open PySem PySem.Spec
open PyProof.Rows L2
open Evl (Ex sz_of)

/-! ### zip and enumerate over any two sources -/
def SrcV (K : PySem.W.Frag) (v : V) (xs : List V) (Gd : Hp → Prop) : Prop :=
  (∃ a, v = .ref a ∧ ∀ H, Gd H → SqT K H a xs) ∨ (∃ a, v = .ref a ∧ ∀ H, Gd H → SqL K H a xs) ∨ (∃ s, v = .str s ∧ xs = signs s)
theorem SrcV.src {K : PySem.W.Frag} {v : V} {xs : List V} {Gd : Hp → Prop} {u : Value} (h : SrcV K v xs Gd) (r : RelV v u) : ∃ S : Src, ∀ X : Cx, X.K = K → SrcIn X S u xs Gd := by
  rcases h with ⟨a, rfl, h⟩ | ⟨a, rfl, h⟩ | ⟨x, rfl, rfl⟩
  · cases r
    refine ⟨srcTup a, fun X hK pins σ H s I g => ?_⟩
    subst hK
    obtain ⟨its, rv, p, _⟩ := I.tuple (h H g)
    exact srcH_tup rv p
  · cases r
    refine ⟨srcLst a, fun X hK pins σ H s I g => ?_⟩
    subst hK
    obtain ⟨its, rv, p, _⟩ := I.list (h H g)
    exact srcH_lst rv p.isList
  · obtain ⟨t, rfl⟩ := r
    exact ⟨srcStr x t, fun X hK pins σ H s I g => srcH_str⟩
def iZipV (K : PySem.W.Frag) (ta : TA) : TI := fun σ H R => ta σ H fun vs H1 => ∃ v1 v2 xs ys Gd, vs = [v1, v2] ∧ SrcV K v1 xs Gd ∧ SrcV K v2 ys Gd ∧ Gd H1 ∧ R (ItP xs ys Gd) H1
/-- items in new pairs with their places -/
def ItE (xs : List V) (Gd : Hp → Prop) : It :=
  ⟨fun i H => Gd H ∧ i < xs.length, fun i H v H' => ∃ T x, v = .ref T ∧ H T = none ∧ H' = upd H T (.tup [.int (i : Nat), x]) ∧ xs[i]? = some x, fun i H => Gd H ∧ xs.length ≤ i⟩
def iEnumV (K : PySem.W.Frag) (ta : TA) : TI := fun σ H R => ta σ H fun vs H1 => ∃ v1 xs Gd, vs = [v1] ∧ SrcV K v1 xs Gd ∧ Gd H1 ∧ R (ItE xs Gd) H1
/-! ### as things of the value layer -/
def dsigns (x : Str) : List D := x.cps.toList.map fun c => D.str ⟨#[c]⟩
def seqD : D → Option (List D)
  | .tup ds => some ds
  | .lst ds => some ds
  | .str x => some (dsigns x)
  | .emp => some []
  | _ => none
def zipD : List D → List D → List D
  | x :: xs, y :: ys => .tup [x, y] :: zipD xs ys
  | _, _ => []
def enumD : Nat → List D → List D
  | _, [] => []
  | i, x :: xs => .tup [.int i, x] :: enumD (i + 1) xs
def iZip (a : MA) : MI := fun ρ => match a ρ with
  | some (.ok [.d x, .d y], ρ1) => match seqD x, seqD y with
    | some xs, some ys => some (zipD xs ys, ρ1)
    | _, _ => none
  | _ => none
def iEnu (a : MA) : MI := fun ρ => match a ρ with
  | some (.ok [.d x], ρ1) => match seqD x with
    | some xs => some (enumD 0 xs, ρ1)
    | _ => none
  | _ => none
theorem zipD_len : ∀ xs ys : List D, (zipD xs ys).length = min xs.length ys.length
  | [], ys => by simp [zipD]
  | x :: xs, [] => by simp [zipD]
  | x :: xs, y :: ys => by
    show (zipD xs ys).length + 1 = _
    rw [zipD_len xs ys]
    simp only [List.length_cons]
    omega
theorem zipD_get : ∀ (xs ys : List D) (i : Nat) (d : D), (zipD xs ys)[i]? = some d → ∃ x y, xs[i]? = some x ∧ ys[i]? = some y ∧ d = .tup [x, y]
  | [], ys, i, d, h => by simp [zipD] at h
  | x :: xs, [], i, d, h => by simp [zipD] at h
  | x :: xs, y :: ys, 0, d, h => ⟨x, y, rfl, rfl, by
    have h' : D.tup [x, y] = d := by simpa [zipD] using h
    exact h'.symm⟩
  | x :: xs, y :: ys, i + 1, d, h => zipD_get xs ys i d (by simpa [zipD] using h)
theorem enumD_len : ∀ (n : Nat) (xs : List D), (enumD n xs).length = xs.length
  | _, [] => rfl
  | n, x :: xs => congrArg (· + 1) (enumD_len (n + 1) xs)
theorem enumD_get : ∀ (n : Nat) (xs : List D) (i : Nat) (d : D), (enumD n xs)[i]? = some d → ∃ x, xs[i]? = some x ∧ d = .tup [.int (n + i : Nat), x]
  | _, [], i, d, h => by simp [enumD] at h
  | n, x :: xs, 0, d, h => ⟨x, rfl, by
    have h' : D.tup [.int n, x] = d := by simpa [enumD] using h
    exact h'.symm⟩
  | n, x :: xs, i + 1, d, h => by
    obtain ⟨y, h1, h2⟩ := enumD_get (n + 1) xs i d (by simpa [enumD] using h)
    refine ⟨y, h1, ?_⟩
    rw [h2, show n + 1 + i = n + (i + 1) by omega]
section
variable {G : Cn} {E : XK} {F F1 F2 H H1 H2 : Hp} {σ : L2.St} {ρ ρ1 : Rho} {α α1 : Al}
theorem Rep.src {v : V} {d : D} {ds : List D} (h : Rep G F1 v d) (e : seqD d = some ds) : ∃ xs, SrcV G.K v xs (Lx F1) ∧ Reps G F1 xs ds := by
  cases d <;> cases e
  · rename_i x
    unfold Rep at h
    subst h
    refine ⟨signs x, .inr (.inr ⟨x, rfl, rfl⟩), ?_⟩
    unfold signs dsigns
    generalize x.cps.toList = l
    induction l with
    | nil => exact Reps.nil
    | cons c l ih => exact Reps.cons (by unfold Rep; rfl) ih
  · unfold Rep at h
    obtain ⟨p, vs, rfl, h1, h2⟩ := h
    exact ⟨vs, .inl ⟨p, rfl, fun H e => SqT.of (e.x h1)⟩, h2⟩
  · unfold Rep at h
    obtain ⟨p, vs, rfl, h1, h2⟩ := h
    exact ⟨vs, .inr (.inl ⟨p, rfl, fun H e => SqL.of (e.x h1)⟩), h2⟩
  · unfold Rep at h
    obtain ⟨a, rfl, k⟩ := h
    exact ⟨[], .inl ⟨a, rfl, fun _ _ => sqt_none k⟩, .nil⟩
theorem it_pair {F' H' : Hp} {T : Addr} {x y : V} {d e : D} (e2 : Lx F' H') (hT : H' T = none) (rx : Rep G F' x d) (ry : Rep G F' y e) :
    ∃ F'', Ex F' F'' ∧ Ex H' (upd H' T (.tup [x, y])) ∧ (∀ b o, F'' b = some o → F' b = some o ∨ H' b = none) ∧ Lx F'' (upd H' T (.tup [x, y])) ∧ Rep G F'' (.ref T) (.tup [d, e]) := by
  have eF : Ex F' (upd F' T (.tup [x, y])) := fun b o h => by
    by_cases q : b = T
    · subst q
      rw [e2.back hT] at h
      cases h
    · rw [upd_ne q]; exact h
  have eH : Ex H' (upd H' T (.tup [x, y])) := fun b o h => by
    by_cases q : b = T
    · subst q
      rw [h] at hT
      cases hT
    · rw [upd_ne q]; exact h
  refine ⟨upd F' T (.tup [x, y]), eF, eH, fun b o h => ?_, fun b o h => ?_, ?_⟩
  · by_cases q : b = T
    · subst q; exact .inr hT
    · rw [upd_ne q] at h; exact .inl h
  · by_cases q : b = T
    · subst q; rw [upd_same] at h ⊢; exact .inl h
    · rw [upd_ne q] at h ⊢; exact e2 _ _ h
  · unfold Rep
    exact ⟨T, [x, y], rfl, upd_same, Reps.cons (rx.mono eF) (Reps.one (ry.mono eF))⟩
theorem it_zip {vs ws : List V} {xs ys : List D} (rx : Reps G F1 vs xs) (ry : Reps G F1 ws ys) : ItSem G F1 H1 (ItP vs ws (Lx F1)) (zipD xs ys) := fun {F' H'} i e1 e2 _ => by
  have l1 := rx.length
  have l2 := ry.length
  have l3 := zipD_len xs ys
  refine ⟨fun hi => ⟨Lx.pre e1 e2, by omega, by omega⟩, fun hi => ⟨Lx.pre e1 e2, by omega⟩, fun x H'' d hd y => ?_⟩
  obtain ⟨T, x', y', rfl, hT, rfl, g1, g2⟩ := y
  obtain ⟨dx, dy, h1, h2, rfl⟩ := zipD_get _ _ _ _ hd
  obtain ⟨v, q1, q2⟩ := rx.get h1
  obtain ⟨w, q3, q4⟩ := ry.get h2
  rw [g1] at q1
  cases q1
  rw [g2] at q3
  cases q3
  exact it_pair e2 hT (q2.mono e1) (q4.mono e1)
theorem it_enum {vs : List V} {xs : List D} (rx : Reps G F1 vs xs) : ItSem G F1 H1 (ItE vs (Lx F1)) (enumD 0 xs) := fun {F' H'} i e1 e2 _ => by
  have l1 := rx.length
  have l3 := enumD_len 0 xs
  refine ⟨fun hi => ⟨Lx.pre e1 e2, by omega⟩, fun hi => ⟨Lx.pre e1 e2, by omega⟩, fun x H'' d hd y => ?_⟩
  obtain ⟨T, x', rfl, hT, rfl, g1⟩ := y
  obtain ⟨dx, h1, rfl⟩ := enumD_get _ _ _ _ hd
  obtain ⟨v, q1, q2⟩ := rx.get h1
  rw [g1] at q1
  cases q1
  exact it_pair e2 hT (by rw [Nat.zero_add]; unfold Rep; rfl) (q2.mono e1)
theorem semI_zip {ta : TA} {a : MA} (ha : SemA G E ta a) : SemI G (iZipV G.K ta) (iZip a) := ⟨fun {F H σ ρ α ds ρ1 R} S e k => by
  unfold iZip at e
  split at e
  · rename_i x y ρ' e1
    split at e
    · rename_i xs ys q1 q2
      cases e
      refine ha.run S (PostA.okEnd e1 fun vs F1 H1 α1 S1 r1 T1 N1 => ?_)
      obtain ⟨v, w, rfl, r, r'⟩ := r1.two
      obtain ⟨us, k1, p1⟩ := r.src q1
      obtain ⟨ws, k2, p2⟩ := r'.src q2
      exact ⟨v, w, us, ws, _, rfl, k1, k2, S1.ex, k _ F1 H1 α1 S1 T1 N1 (it_zip p1 p2)⟩
    · cases e
  · cases e⟩
theorem semI_enum {ta : TA} {a : MA} (ha : SemA G E ta a) : SemI G (iEnumV G.K ta) (iEnu a) := ⟨fun {F H σ ρ α ds ρ1 R} S e k => by
  unfold iEnu at e
  split at e
  · rename_i x ρ' e1
    split at e
    · rename_i xs q1
      cases e
      refine ha.run S (PostA.okEnd e1 fun vs F1 H1 α1 S1 r1 T1 N1 => ?_)
      obtain ⟨v, rfl, r⟩ := r1.one
      obtain ⟨us, k1, p1⟩ := r.src q1
      exact ⟨v, us, _, rfl, k1, S1.ex, k _ F1 H1 α1 S1 T1 N1 (it_enum p1)⟩
    · cases e
  · cases e⟩
end
end VL

namespace VL
open PySem PySem.Spec
open PyProof.Rows L2
open Evl (Ex sz_of)

/-! ### a slot's object moved out, or frozen where it stands -/
def mMv (i : Nat) : M := fun ρ => match ρ[i]? with
  | some (some (.val d)) => some (.ok (.val d), ρ)
  | some (some o) => some (.ok o, ρ.set i none)
  | _ => none
def mFz (i : Nat) : M := fun ρ => match ρ[i]? with
  | some (some (.val d)) => some (.ok (.val d), ρ)
  | some (some o) => some (.ok (.val o.frz), ρ.set i (some (.val o.frz)))
  | _ => none
section
variable {G : Cn} {E : XK} {F F1 F2 H H1 H2 : Hp} {σ : L2.St} {ρ ρ1 : Rho} {α α1 : Al} {i : Nat} {ta tb tc : TE} {ma mb mc : M}
theorem Ste.take {o : O} (S : Ste G F H σ ρ α) (h : ρ[i]? = some (some o)) : Ste G F H σ (ρ.set i none) (Al.set α i []) where
  ex := S.ex
  len := by rw [List.length_set]; exact S.len
  slot := fun j x e => by
    have hi : i < ρ.length := (List.getElem?_eq_some_iff.mp h).1
    by_cases q : j = i
    · subst q
      rw [List.getElem?_set_self hi] at e
      cases e
    · rw [List.getElem?_set_ne (Ne.symm q)] at e
      rw [Al.set_ne q]
      exact S.slot j x e
  off := fun j hj => by
    by_cases q : j = i
    · subst q; exact Al.set_eq
    · rw [Al.set_ne q]
      exact S.off j fun x e => hj x (by rw [List.getElem?_set_ne (Ne.symm q)]; exact e)
  dis := fun j k a ne hj hk => by
    have f : ∀ m, a ∈ Al.set α i [] m → a ∈ α m := fun m hm => by
      by_cases q : m = i
      · subst q; rw [Al.set_eq] at hm; cases hm
      · rwa [Al.set_ne q] at hm
    exact S.dis j k a ne (f j hj) (f k hk)
theorem own_take {a : Addr} (h : Own (Al.set α i []) a) : Own α a := (Al.own_set h).elim id fun z => nomatch z
theorem sem_mv : Sem G E (tVar i) (mMv i) := ⟨fun {F H σ ρ α Q} S h => by
  unfold mMv at h
  split at h
  · rename_i d e
    obtain ⟨v, h1, r⟩ := S.slot i _ e
    exact ⟨v, h1, Post.val h S r.2⟩
  · rename_i o _ e
    obtain ⟨v, h1, r⟩ := S.slot i _ e
    refine ⟨v, h1, h v F H _ (α i) (S.take e) r .refl (fun a ha z => ?_) fun a z => ?_⟩
    · obtain ⟨j, hj⟩ := z
      by_cases q : j = i
      · subst q; rw [Al.set_eq] at hj; cases hj
      · rw [Al.set_ne q] at hj
        exact S.dis j i a q hj ha
    · rcases z with z | z
      · exact .inl (own_take z)
      · exact .inl ⟨i, z⟩
  · exact h.elim⟩
theorem sem_fz : Sem G E (tVar i) (mFz i) := ⟨fun {F H σ ρ α Q} S h => by
  unfold mFz at h
  split at h
  · rename_i d e
    obtain ⟨v, h1, r⟩ := S.slot i _ e
    exact ⟨v, h1, Post.val h S r.2⟩
  · rename_i o _ e
    obtain ⟨v, h1, r⟩ := S.slot i _ e
    have hi : i < ρ.length := (List.getElem?_eq_some_iff.mp e).1
    have N1 : ∀ a ∈ α i, ¬ Own (Al.set α i []) a := fun a ha z => by
      obtain ⟨j, hj⟩ := z
      by_cases q : j = i
      · subst q; rw [Al.set_eq] at hj; cases hj
      · rw [Al.set_ne q] at hj
        exact S.dis j i a q hj ha
    obtain ⟨F2, S2, r2, T2, N3⟩ := Ste.freeze (F := F) (H := H) (α := α) (S.take e) r .refl N1 fun a z => z.elim (fun z => .inl (own_take z)) fun z => .inl ⟨i, z⟩
    have S3 : Ste G F2 H σ (ρ.set i (some (.val o.frz))) (Al.set α i []) := ⟨S2.ex, by rw [List.length_set]; exact S.len, fun j x ej => by
        by_cases q : j = i
        · subst q
          rw [List.getElem?_set_self hi] at ej
          cases ej
          exact ⟨v, h1, by rw [Al.set_eq]; exact ⟨rfl, r2⟩⟩
        · rw [List.getElem?_set_ne (Ne.symm q)] at ej
          exact S2.slot j x (by rw [List.getElem?_set_ne (Ne.symm q)]; exact ej), fun j hj => by
        by_cases q : j = i
        · subst q; exact Al.set_eq
        · exact S2.off j fun x ej => hj x (by rw [List.getElem?_set_ne (Ne.symm q)] at ej ⊢; exact ej), S2.dis⟩
    exact ⟨v, h1, h v F2 H _ [] S3 ⟨rfl, r2⟩ T2 (fun a ha => nomatch ha) fun a z => z.elim (fun z => N3 a z) fun z => nomatch z⟩
  · exact h.elim⟩

/-! ### a op b op' c -/
def mChain (f g : D → D → Option O) (a b c : M) : M := fun ρ => bnd (a ρ) fun x ρ1 => bnd (b ρ1) fun y ρ2 => match f x.frz y.frz with
  | some (.val (.bl true)) => bnd (c ρ2) fun z ρ3 => (g y.frz z.frz).map fun o => (.ok o, ρ3)
  | some (.val (.bl false)) => some (.ok (.val (.bl false)), ρ2)
  | _ => none
theorem sem_chain {r r' : R2} {f g : D → D → Option O} (h1 : OSem G r f) (h2 : OSem G r' g) (ha : Sem G E ta ma) (hb : Sem G E tb mb) (hc : Sem G E tc mc) : Sem G E (tChain r r' ta tb tc) (mChain f g ma mb mc) := ⟨fun {F H σ ρ α Q} S h =>
  ha.run S (Post.to h fun o ρ1 v F1 H1 α1 S1 r1 T1 N1 k1 => hb.run S1 (Post.to (Post.shift T1 N1 k1) fun o2 ρ2 v2 F2 H2 α2 S2 r2 T2 N2 k2 => by
    have k3 := Post.shift T2 N2 k2
    split at k3
    · rename_i e
      refine h1 (E := E) S2 (.inl (r1.mono T2.exF)) (.inl r2) ?_
      rw [e]
      intro v3 F3 H3 α3 β S3 R3 T3 M3 N3
      obtain ⟨rfl, R3⟩ := R3
      obtain rfl : v3 = .bl true := by unfold Rep at R3; exact R3
      refine ⟨true, rfl, ?_⟩
      rw [if_pos rfl]
      have N3' : New (Own α2) H2 (Own α3) := fun a z => N3 a (.inl z)
      exact hc.run S3 (Post.to (Post.shift T3 N3' k3) fun o4 ρ4 v4 F4 H4 α4 S4 r4 T4 N4 k4 => h2 S4 (.inl ((r2.mono T3.exF).mono T4.exF)) (.inl r4) (Post.shift T4 N4 k4))
    · rename_i e
      refine h1 (E := E) S2 (.inl (r1.mono T2.exF)) (.inl r2) ?_
      rw [e]
      intro v3 F3 H3 α3 β S3 R3 T3 M3 N3
      obtain ⟨rfl, R3⟩ := R3
      obtain rfl : v3 = .bl false := by unfold Rep at R3; exact R3
      refine ⟨false, rfl, ?_⟩
      rw [if_neg (by decide)]
      have N3' : New (Own α2) H2 (Own α3) := fun a z => N3 a (.inl z)
      exact Post.val (Post.shift T3 N3' k3) S3 Rep.ofBl
    · exact k3.elim))⟩

/-! ### one operand -/
def mUn (f : D → Option O) (a : M) : M := fun ρ => bnd (a ρ) fun x ρ1 => (f x.frz).map fun o => (.ok o, ρ1)
def fNeg : D → Option O
  | .int i => some (.val (.int (-i)))
  | _ => none
theorem sem_neg (ha : Sem G E ta ma) : Sem G E (tUn (rU fun i => .int (-i)) ta) (mUn fNeg ma) := ⟨fun {F H σ ρ α Q} S h =>
  ha.run S (Post.to h fun o ρ1 v F1 H1 α1 S1 r1 T1 N1 h1 => by
    have h2 := Post.shift T1 N1 h1
    unfold fNeg at h2
    split at h2
    · rename_i i e
      rw [e] at r1
      exact ⟨i, r1.toInt, Post.val h2 S1 Rep.ofInt⟩
    · exact h2.elim)⟩
/-- is None -/
def isNon : D → Bool
  | .non => true
  | _ => false
def fIsN (neg : Bool) (x y : D) : Option O := match y with
  | .non => some (.val (.bl (if neg then !isNon x else isNon x)))
  | _ => none
theorem rep_non {v : V} {d : D} (h : RepX G F H v d) (e : Lx F H) : isNon d = decide (v = .non) := by
  cases d with
  | non => rw [h.non]; rfl
  | bl b => rw [h.bl]; rfl
  | int b => rw [h.int]; rfl
  | str b => rw [h.str]; rfl
  | tup ds => obtain ⟨a, vs, rfl, _⟩ := h.t e; rfl
  | lst ds => obtain ⟨a, vs, rfl, _⟩ := h.l e; rfl
  | dic ds => obtain ⟨a, vs, rfl, _⟩ := h.k e; rfl
  | ins c fs => obtain ⟨a, dx, vs, rfl, _⟩ := h.i e; rfl
  | scr ns => obtain ⟨a, rfl, _⟩ := h.scr e; rfl
  | dcn ds => obtain ⟨a, xs, rfl, _⟩ := h.n e; rfl
  | cls c => rw [h.cls]; rfl
  | emp => obtain ⟨a, rfl, _⟩ := h.emp e; rfl
theorem os_isN : OSem G (fun x y H Q => y = .non ∧ Q (.bl (decide (x = .non))) H) (fIsN false) := fun {E F H σ ρ α Q x y dx dy} S hx hy h => by
  unfold fIsN at h
  split at h
  · refine ⟨hy.non, ?_⟩
    rw [← rep_non hx S.ex]
    exact Post.val h S Rep.ofBl
  · exact h.elim
theorem os_notN : OSem G (fun x y H Q => y = .non ∧ Q (.bl (!decide (x = .non))) H) (fIsN true) := fun {E F H σ ρ α Q x y dx dy} S hx hy h => by
  unfold fIsN at h
  split at h
  · refine ⟨hy.non, ?_⟩
    rw [← rep_non hx S.ex]
    exact Post.val h S Rep.ofBl
  · exact h.elim

/-! ### + and * of lists, tuples, texts -/
def fCatL (x y : D) : Option O := match x, y with
  | .lst xs, .lst ys => if xs.length + ys.length ≤ 100000 then some (.lst (xs ++ ys)) else none
  | _, _ => none
theorem os_cat : OSem G rCat fCatL := fun {E F H σ ρ α Q x y dx dy} S hx hy h => by
  unfold fCatL at h
  split at h
  · rename_i xs ys
    split at h
    · rename_i hn
      obtain ⟨a, vs, rfl, h1, r1⟩ := hx.l S.ex
      obtain ⟨b, ws, rfl, h2, r2⟩ := hy.l S.ex
      exact ⟨a, b, vs, ws, rfl, rfl, h1, h2, sz_of (by rw [r1.length, r2.length]; exact hn), fun p hp => Post.newL h S hp (r1.append r2)⟩
    · exact h.elim
  · exact h.elim
def fCatT (x y : D) : Option O := match x, y with
  | .tup xs, .tup ys => if xs.length + ys.length ≤ 100000 then some (.val (.tup (xs ++ ys))) else none
  | _, _ => none
theorem rep_tup0 {v : V} (h : RepX G F H v (.tup [])) (e : Lx F H) : ∃ a, v = .ref a ∧ F a = some (.tup []) := by
  obtain ⟨a, vs, rfl, h1, h2, r⟩ := h.t e
  obtain rfl := r.of_nil
  exact ⟨a, rfl, h1⟩
theorem os_catA : OSem G (rCatA G.K) fCatT := fun {E F H σ ρ α Q x y dx dy} S hx hy h => by
  unfold fCatT at h
  split at h
  · rename_i xs ys
    split at h
    · rename_i hn
      obtain ⟨a, vs, rfl, h0, h1, r1⟩ := hx.t S.ex
      obtain ⟨b, ws, rfl, h0', h2, r2⟩ := hy.t S.ex
      refine ⟨a, b, vs, ws, rfl, rfl, SqT.of h1, SqT.of h2, sz_of (by rw [r1.length, r2.length]; exact hn), fun e => ?_, fun e e2 => ?_, fun _ _ p hp => Post.newV h S hp (Rep.ofTup upd_same ((r1.append r2).mono (Ex.new (S.fresh hp))))⟩
      · subst e
        have : xs = [] := List.eq_nil_of_length_eq_zero (by have := r1.length; simpa using this.symm)
        subst this
        exact Post.val h S (Rep.ofTup h0' r2)
      · subst e2
        have : ys = [] := List.eq_nil_of_length_eq_zero (by have := r2.length; simpa using this.symm)
        subst this
        rw [List.append_nil] at h
        exact Post.val h S (Rep.ofTup h0 r1)
    · exact h.elim
  · exact h.elim
theorem reps_flat {vs : List V} {ds : List D} (h : Reps G F vs ds) : ∀ n : Nat, Reps G F (List.replicate n vs).flatten (List.replicate n ds).flatten
  | 0 => Reps.nil
  | n + 1 => by
    rw [List.replicate_succ, List.replicate_succ, List.flatten_cons, List.flatten_cons]
    exact h.append (reps_flat h n)
def fRepT (x y : D) : Option O := match x, y with
  | .tup xs, .int k => if xs.length ≠ 0 ∧ 2 ≤ k ∧ k ≤ 1000 ∧ xs.length ≤ 1000 then some (.val (.tup (List.replicate k.toNat xs).flatten)) else none
  | _, _ => none
theorem os_repT : OSem G (rRepT G.K) fRepT := fun {E F H σ ρ α Q x y dx dy} S hx hy h => by
  unfold fRepT at h
  split at h
  · rename_i xs k
    split at h
    · rename_i hn
      obtain ⟨a, vs, rfl, h0, h1, r1⟩ := hx.t S.ex
      obtain rfl := hy.int
      refine ⟨a, k, vs, rfl, rfl, SqT.of h1, fun e => ?_, hn.2.1, hn.2.2.1, by rw [r1.length]; exact hn.2.2.2, fun p hp => Post.newV h S hp (Rep.ofTup upd_same ((reps_flat r1 _).mono (Ex.new (S.fresh hp))))⟩
      subst e
      exact hn.1 r1.length.symm
    · exact h.elim
  · exact h.elim
def fRepL (x y : D) : Option O := match x, y with
  | .lst xs, .int k => if -1000000 ≤ k ∧ k ≤ 1000000 ∧ xs.length * k.toNat ≤ 100000 then some (.lst (List.replicate k.toNat xs).flatten) else none
  | _, _ => none
theorem os_rep : OSem G rRep fRepL := fun {E F H σ ρ α Q x y dx dy} S hx hy h => by
  unfold fRepL at h
  split at h
  · rename_i xs k
    split at h
    · rename_i hn
      obtain ⟨a, vs, rfl, h1, r1⟩ := hx.l S.ex
      obtain rfl := hy.int
      exact ⟨a, k, vs, rfl, rfl, h1, by omega, by omega, sz_of (by rw [r1.length]; exact hn.2.2), fun p hp => Post.newL h S hp (reps_flat r1 _)⟩
    · exact h.elim
  · exact h.elim
def fCatS (x y : D) : Option O := match x, y with
  | .str i, .str j => if i.length + j.length ≤ 100000 then some (.val (.str (i ++ j))) else none
  | _, _ => none
theorem os_catS : OSem G (fun x y H Q => ∃ i j, x = .str i ∧ y = .str j ∧ i.length + j.length ≤ sizeLine ∧ Q (.str (i ++ j)) H) fCatS := fun {E F H σ ρ α Q x y dx dy} S hx hy h => by
  unfold fCatS at h
  split at h
  · rename_i i j
    split at h
    · rename_i hn
      exact ⟨i, j, hx.str, hy.str, sz_of hn, Post.val h S Rep.ofStr⟩
    · exact h.elim
  · exact h.elim

/-! ### list(d), a dict's operators -/
def kD : Key → D
  | .inl i => .int i
  | .inr x => .str x
def fListD : List D → Option O
  | [.dic kds] => some (.lst (kds.map fun kd => kD kd.1))
  | _ => none
theorem kD_rep {k : Key} : Rep G F (kV k) (kD k) := by
  cases k with
  | inl i => exact Rep.ofInt
  | inr x => exact Rep.ofStr
theorem cs_listD : CSem G (fun xs H Q => ∃ (a : Addr) (kvs : List (Key × V)), xs = [.ref a] ∧ Rd H a (.dK kvs) ∧ ∀ p, H p = none → Q (.ref p) (upd H p (.lst (kvs.map fun kv => kV kv.1)))) fListD := fun {E F H σ ρ α Q vs ds} S hv h => by
  unfold fListD at h
  split at h
  · rename_i kds
    obtain ⟨v, rfl, hx⟩ := hv.one
    obtain ⟨a, kvs, rfl, h1, r⟩ := hx.k S.ex
    refine ⟨a, kvs, rfl, h1, fun p hp => Post.newL h S hp ?_⟩
    clear h h1 hx hv
    induction kds generalizing kvs with
    | nil => rw [r.of_nil]; exact Reps.nil
    | cons kd kds ih =>
      obtain ⟨k, d⟩ := kd
      obtain ⟨v, w, rfl, h2, h3⟩ := r.of_cons
      exact Reps.cons kD_rep (ih w h3)
  · exact h.elim
theorem or_dget {X : Cx} (hu : X.A.units + 1 < cLine) : OpR X getItem rDGet := by
  intro pns s σ H x y v u Q inv rx ry got
  obtain ⟨a, z, rfl, g, q⟩ := got
  cases rx
  exact d_getItem hu inv g ry fun w' s' J r => ⟨z, H, J, r, q⟩
theorem or_din {X : Cx} (hu : X.A.units + 1 < cLine) : OpR X (compareOp .In) (rDIn false) := by
  intro pns s σ H x y v u Q inv rx ry got
  obtain ⟨a, o, rfl, g, q⟩ := got
  cases ry
  exact d_in hu inv g rx fun s' I' => ⟨.bl o.isSome, H, I', rfl, q⟩
theorem or_dnin {X : Cx} (hu : X.A.units + 1 < cLine) : OpR X (compareOp .NotIn) (rDIn true) := by
  intro pns s σ H x y v u Q inv rx ry got
  obtain ⟨a, o, rfl, g, q⟩ := got
  cases ry
  exact d_notIn hu inv g rx fun s' I' => ⟨.bl (!o.isSome), H, I', rfl, q⟩
end
end VL

namespace VL
open PySem PySem.Spec
open PyProof.Rows L2
open Evl (Ex sz_of)

/-! ### truth of dicts, of those with tuples for keys, of those that are locked -/
section
variable {P : Program} {w : World} {K : Type} [DecidableEq K] {knd : HeapKind P w K} {A : Around} {E : Value → Shared → Prop} {s : Shared} {d : Addr} {xs : List (K × Addr × Value)} {Q : Bool → Shared → Prop}
theorem tru_dictH (hd : (d == sysModules) = false) (hm : s.heap.DictOfH knd d xs) (hf : (xs.length : Int) < 2 ^ 63) (h : ∀ t, Q (!xs.isEmpty) { s with toks := t }) : wpAny (model P w) A (truthy (.ref d)) Q E s := by
  have e : ((xs.length : Int) != 0) = !xs.isEmpty := by
    cases xs with
    | nil => rfl
    | cons x xs =>
      have : ((x :: xs).length : Int) ≠ 0 := by rw [List.length_cons]; omega
      simpa using this
  have L : wpAny (model P w) A (runValue (.builtin "len" ⟨[.ref d], []⟩)) (fun r z => r = .int xs.length (s.toks + 1) ∧ Q (!xs.isEmpty) z) E s :=
    wpAny_runValue (codeAny_builtin entry_len (by
      rw [Around.under_plainId plain_len _]
      refine wpAny_mono (wpAny_len_body_dictH (Q := fun r z => r = .int xs.length (s.toks + 1) ∧ Q (!xs.isEmpty) z) hd hm hf ⟨rfl, h _⟩) (fun f z hz => ?_) fun _ _ x => x
      obtain ⟨r, rfl, q⟩ := hz
      exact q))
  have fin : wpAny (model P w) A (runValue (.builtin "len" ⟨[.ref d], []⟩)) (fun r z => r = .int xs.length (s.toks + 1) ∧ Q ((xs.length : Int) != 0) z) E s := by
    rw [e]
    exact L
  unfold truthy
  first
    | refine wpAny_bind (wpAny_callSpecial?_none
        (name := .ofString "__bool__") hm.typeIs noBool_dict ?_)
    | refine wpAny_bind (wpAny_pure (wpAny_bind (wpAny_callSpecial?_none
        (name := .ofString "__bool__") hm.typeIs noBool_dict ?_)))
  first
    | refine wpAny_bind (wpAny_specialOf
        (name := .ofString "__len__") hm.typeIs F.slot_dict_len.lookup ?_)
    | refine wpAny_bind (wpAny_pure (wpAny_bind (wpAny_specialOf
        (name := .ofString "__len__") hm.typeIs F.slot_dict_len.lookup ?_)))
  first
    | exact wpAny_bind (wpAny_mono fin (fun r z hz => by
        obtain ⟨rfl, q⟩ := hz
        exact wpAny_pure q) fun _ _ x => x)
    | exact wpAny_bind (wpAny_pure (wpAny_bind (wpAny_mono fin (fun r z hz => by
        obtain ⟨rfl, q⟩ := hz
        exact wpAny_pure q) fun _ _ x => x)))
end

/-- truth, of dicts too that are locked or have tuples for keys -/
def TruW (K : PySem.W.Frag) (w : World) (x : V) (H : Hp) (k : Bool) : Prop := TruV K x H k ∨ (∃ a kvs, x = .ref a ∧ Rd H a (.dK kvs) ∧ k = !kvs.isEmpty) ∨ ∃ a xs, x = .ref a ∧ Rd H a (NDo w a xs) ∧ KsOk H xs ∧ k = !xs.isEmpty
theorem line62 : (sizeLine : Int) < 2 ^ 63 := by rw [sizeLine_eq]; decide
theorem tru_w {X : Cx} : TruR X (fun x H Q => ∃ k, TruW X.K X.w x H k ∧ Q k H) := by
  intro pins s σ H x v Q I rx h
  obtain ⟨k, e, q⟩ := h
  rcases e with e | ⟨a, kvs, rfl, r, rfl⟩ | ⟨a, xs, rfl, r, ks, rfl⟩
  · exact tru_ok pins s σ H x v Q I rx ⟨k, e, q⟩
  · obtain rfl : v = Value.ref a := rx
    obtain ⟨z, hd, vs, rel, dd⟩ := dk_rd I.hok r
    refine wpAny_truthy_dict hd dd ?_ ⟨H, I.tok _, ?_⟩
    · have := rel.length
      have := line62
      omega
    · rw [isEmpty_kv rel]
      exact q
  · obtain rfl : v = Value.ref a := rx
    obtain ⟨z, hd, ys, p, dd⟩ := nd_of I.hok r ks
    refine tru_dictH hd dd ?_ fun t => ⟨H, I.tok _, ?_⟩
    · have := Paired.length p
      have := line62
      omega
    · cases p <;> exact q
theorem pt_truthW {X : Cx} {a : Expr} {ta : TE} (ha : PE X a ta) (he : ∀ whole, isTrue a X.env whole = (do let v ← whole; standAt a.pos; holding [v] (truthy v))) : PT X a (fun σ H Q => ta σ H fun x H' => ∃ k, TruW X.K X.w x H' k ∧ Q k H') :=
  ⟨fun pins s σ H Q I h => isTrue_plain (thn (ha.run pins s σ H _ I h) fun v s1 ⟨x, H1, I1, r1, q1⟩ => tru_w pins s1 σ H1 x v Q I1 r1 q1) (he _)⟩
section
variable {G : Cn} {E : XK} {F F1 F2 H H1 H2 : Hp} {σ : L2.St} {ρ ρ1 : Rho} {α α1 : Al} {i : Nat} {ta tb tc : TE} {ma mb mc : M}
/-! ### truth of values -/
def truD : D → Option Bool
  | .non => some false
  | .bl b => some b
  | .int i => some (i != 0)
  | .str y => if y.length ≤ 100000 then some ((y.length : Int) != 0) else none
  | .tup ds => some (!ds.isEmpty)
  | .lst ds => some (!ds.isEmpty)
  | .dic ds => some (!ds.isEmpty)
  | .scr ds => some (!ds.isEmpty)
  | .dcn ds => some (!ds.isEmpty)
  | .emp => some false
  | _ => none
theorem Reps.emp {vs : List V} {ds : List D} (h : Reps G F vs ds) : vs.isEmpty = ds.isEmpty := by
  have := h.length
  cases vs <;> cases ds <;> first | rfl | cases this
theorem RepsK.emp {vs : List (Key × V)} {ds : List (Key × D)} (h : RepsK G F vs ds) : vs.isEmpty = ds.isEmpty := by
  have := h.length
  cases vs <;> cases ds <;> first | rfl | cases this
theorem tru_x {v : V} {d : D} {k : Bool} (h : RepX G F H v d) (e : Lx F H) (q : truD d = some k) : TruW G.K G.w v H k := by
  cases d with
  | non => rw [h.non]; cases q; exact .inl rfl
  | bl b => rw [h.bl]; cases q; exact .inl rfl
  | int b => rw [h.int]; cases q; exact .inl rfl
  | str b =>
    rw [h.str]
    replace q : (if b.length ≤ 100000 then some ((b.length : Int) != 0) else none) = some k := q
    split at q
    · rename_i hn
      cases q
      exact .inl ⟨sz_of hn, rfl⟩
    · cases q
  | tup ds => obtain ⟨a, vs, rfl, _, h1, r⟩ := h.t e; cases q; exact .inl (.inr (.inl ⟨vs, SqT.of h1, by rw [r.emp]⟩))
  | lst ds => obtain ⟨a, vs, rfl, h1, r⟩ := h.l e; cases q; exact .inl (.inl ⟨vs, SqL.of h1, by rw [r.emp]⟩)
  | dic ds => obtain ⟨a, vs, rfl, h1, r⟩ := h.k e; cases q; exact .inr (.inl ⟨a, vs, rfl, h1, by rw [r.emp]⟩)
  | ins c fs => cases q
  | scr ns => obtain ⟨a, rfl, h1⟩ := h.scr e; cases q; exact .inl (.inl ⟨_, h1, by cases ns <;> rfl⟩)
  | dcn ds =>
    obtain ⟨a, xs, rfl, h1, r, ks⟩ := h.n e
    cases q
    refine .inr (.inr ⟨a, xs, rfl, h1, ks, ?_⟩)
    cases ds with
    | nil => unfold RepsN at r; subst r; rfl
    | cons d ds => obtain ⟨k, d⟩ := d; unfold RepsN at r; obtain ⟨q, v, r, rfl, _⟩ := r; rfl
  | cls c => cases q
  | emp => obtain ⟨a, rfl, h1⟩ := h.emp e; cases q; exact .inl (.inr (.inl ⟨[], sqt_none h1, rfl⟩))
abbrev tTru (K : PySem.W.Frag) (w : World) (ta : TE) : TT := fun σ H Q => ta σ H fun x H' => ∃ k, TruW K w x H' k ∧ Q k H'
def mTru (a : M) : M := fun ρ => bnd (a ρ) fun x ρ1 => (truD x.frz).map fun b => (.ok (.val (.bl b)), ρ1)
def mTruS (i : Nat) : M := fun ρ => (look ρ i).bind fun x => (truD x).map fun b => (.ok (.val (.bl b)), ρ)
theorem semT_tru (ha : Sem G E ta ma) : SemT G E (tTru G.K G.w ta) (mTru ma) := ⟨fun {F H σ ρ α Q} S h =>
  ha.run S (Post.to h fun o ρ1 v F1 H1 α1 S1 r1 T1 N1 h1 => by
    have h2 := Post.shift T1 N1 h1
    cases e : truD o.frz with
    | none => rw [e] at h2; exact h2.elim
    | some b =>
      rw [e] at h2
      exact ⟨b, tru_x (.inl r1) S1.ex e, okV_bl S1 h2⟩)⟩
theorem semT_truS : SemT G E (tTru G.K G.w (tVar i)) (mTruS i) := ⟨fun {F H σ ρ α Q} S h => by
  unfold mTruS at h
  cases e : look ρ i with
  | none => rw [e] at h; exact h.elim
  | some d =>
    rw [e] at h
    obtain ⟨v, hv, rx⟩ := look_x S e
    try dsimp only [Option.bind] at h
    cases e2 : truD d with
    | none => rw [e2] at h; exact h.elim
    | some b =>
      rw [e2] at h
      exact ⟨v, hv, b, tru_x rx S.ex e2, okV_bl S h⟩⟩

/-! ### a module's table with text keys -/
def valOk : Value → D → Bool
  | .str x _, .str y => x == y
  | .int x _, .int y => x == y
  | .bool x, .bl y => x == y
  | .none, .non => true
  | _, _ => false
def tabOk : List DictEntry → List (Str × D) → Bool
  | [], [] => true
  | e :: es, (s, d) :: tab => (match e.key with | .str z _ => z == s | _ => false) && valOk e.val d && tabOk es tab
  | _, _ => false
def tabV : D → V
  | .str x => .str x
  | .int x => .int x
  | .bl x => .bl x
  | _ => .non
theorem valOk_rel {u : Value} {d : D} (h : valOk u d = true) : RelV (tabV d) u ∧ ∀ F, Rep G F (tabV d) d := by
  unfold valOk at h
  split at h
  · obtain rfl := beq_iff_eq.mp h; exact ⟨⟨_, rfl⟩, fun F => Rep.ofStr⟩
  · obtain rfl := beq_iff_eq.mp h; exact ⟨⟨_, rfl⟩, fun F => Rep.ofInt⟩
  · obtain rfl := beq_iff_eq.mp h; exact ⟨rfl, fun F => Rep.ofBl⟩
  · exact ⟨rfl, fun F => Rep.ofNon⟩
  · cases h
theorem tab_find (z : Str) : ∀ {es : List DictEntry} {tab : List (Str × D)}, tabOk es tab = true →
    es.any (·.refKey) = false ∧ (match tab.lookup z with
      | some d => ∃ e, es.find? (·.key.isStr z) = some e ∧ valOk e.val d = true
      | none => es.find? (·.key.isStr z) = none)
  | [], [], _ => ⟨rfl, rfl⟩
  | [], _ :: _, h => by cases h
  | _ :: _, [], h => by cases h
  | e :: es, (s, d) :: tab, h => by
    unfold tabOk at h
    rw [Bool.and_eq_true, Bool.and_eq_true] at h
    obtain ⟨⟨h1, h2⟩, h3⟩ := h
    obtain ⟨i1, i2⟩ := tab_find z h3
    obtain ⟨hh, k, v⟩ := e
    dsimp only at h1 h2
    split at h1
    · rename_i x t
      obtain rfl := beq_iff_eq.mp h1
      refine ⟨by rw [List.any_cons, i1]; rfl, ?_⟩
      rw [List.lookup_cons]
      by_cases q : z = x
      · subst q
        rw [beq_self_eq_true]
        refine ⟨_, by rw [List.find?_cons, show (Value.str z t).isStr z = true from beq_self_eq_true z], h2⟩
      · rw [show (z == x) = false from beq_eq_false_iff_ne.mpr q]
        have q2 : (Value.str x t).isStr z = false := by
          show (x == z) = false
          exact beq_eq_false_iff_ne.mpr fun w => q w.symm
        rw [List.find?_cons]
        dsimp only
        rw [q2]
        exact i2
    · cases h1
structure Tab (K : PySem.W.Frag) (d : Addr) (es : Array DictEntry) (n : Nat) (tab : List (Str × D)) : Prop where
  look : K.lookup d = some ⟨.type "dict", none, .dict es n, #[]⟩
  ok : tabOk es.toList tab = true
theorem Tab.ns {K : PySem.W.Frag} {d : Addr} {es : Array DictEntry} {n : Nat} {tab : List (Str × D)} (T : Tab K d es n tab) (z : Str) :
    match tab.lookup z with
      | some d' => ∃ u, PySem.W.nsIn K d z = some (some u) ∧ valOk u d' = true
      | none => PySem.W.nsIn K d z = some none := by
  obtain ⟨h1, h2⟩ := tab_find z T.ok
  unfold PySem.W.nsIn
  rw [T.look]
  dsimp only
  split
  · rename_i d' e
    rw [e] at h2
    obtain ⟨e', q1, q2⟩ := h2
    rw [q1]
    exact ⟨_, rfl, q2⟩
  · rename_i e
    rw [e] at h2
    rw [h2]
    dsimp only
    rw [h1]
    rfl
abbrev rTabIn (K : PySem.W.Frag) (d : Addr) : R2 := fun x y H Q => ∃ (z : Str) (r : Option Value), x = .str z ∧ y = .ref d ∧ PySem.W.nsIn K d z = some r ∧ Q (.bl r.isSome) H
abbrev rTabGet (K : PySem.W.Frag) (d : Addr) : R2 := fun x y H Q => ∃ (z : Str) (u0 : Value) (v0 : V), x = .ref d ∧ y = .str z ∧ PySem.W.nsIn K d z = some (some u0) ∧ RelV v0 u0 ∧ Q v0 H
def fTabIn (tab : List (Str × D)) : D → Option O
  | .str z => some (.val (.bl (tab.lookup z).isSome))
  | _ => none
def fTabGet (tab : List (Str × D)) : D → Option O
  | .str z => (tab.lookup z).map .val
  | _ => none
theorem sem_tabIn {d : Addr} {es : Array DictEntry} {n : Nat} {tab : List (Str × D)} (T : Tab G.K d es n tab) (ha : Sem G E ta ma) : Sem G E (tOp (rTabIn G.K d) ta (tC (.ref d))) (mUn (fTabIn tab) ma) := ⟨fun {F H σ ρ α Q} S h =>
  ha.run S (Post.to h fun o ρ1 v F1 H1 α1 S1 r1 T1 N1 h1 => by
    have h2 := Post.shift T1 N1 h1
    unfold fTabIn at h2
    split at h2
    · rename_i z e
      rw [e] at r1
      have t := T.ns z
      have rv : v = .str z := by unfold Rep at r1; exact r1
      cases q : tab.lookup z with
      | none =>
        rw [q] at t h2
        exact ⟨z, none, rv, rfl, t, Post.val h2 S1 Rep.ofBl⟩
      | some d' =>
        rw [q] at t h2
        obtain ⟨u, t, _⟩ := t
        exact ⟨z, some u, rv, rfl, t, Post.val h2 S1 Rep.ofBl⟩
    · exact h2.elim)⟩
theorem sem_tabGet {d : Addr} {es : Array DictEntry} {n : Nat} {tab : List (Str × D)} (T : Tab G.K d es n tab) (ha : Sem G E ta ma) : Sem G E (tOp (rTabGet G.K d) (tC (.ref d)) ta) (mUn (fTabGet tab) ma) := ⟨fun {F H σ ρ α Q} S h =>
  ha.run S (Post.to h fun o ρ1 v F1 H1 α1 S1 r1 T1 N1 h1 => by
    have h2 := Post.shift T1 N1 h1
    unfold fTabGet at h2
    split at h2
    · rename_i z e
      rw [e] at r1
      have t := T.ns z
      have rv : v = .str z := by unfold Rep at r1; exact r1
      cases q : tab.lookup z with
      | none =>
        rw [q] at h2
        exact h2.elim
      | some d' =>
        rw [q] at t h2
        obtain ⟨u, t, w⟩ := t
        obtain ⟨w1, w2⟩ := valOk_rel (G := G) w
        exact ⟨z, u, tabV d', rfl, rv, t, w1, Post.val h2 S1 (w2 _)⟩
    · exact h2.elim)⟩
end
end VL

namespace VL
open PySem PySem.Spec
open PyProof.Rows L2
open Evl (Ex sz_of)

/-! ### rules that leave open what a value is -/
def iAny (a : M) : MI := fun ρ => match a ρ with
  | some (.ok o, ρ1) => match o.frz with
    | .tup ds => some (ds, ρ1)
    | .lst ds => some (ds, ρ1)
    | .scr ns => some (ns.map .int, ρ1)
    | _ => none
  | _ => none
section
variable {G : Cn} {E : XK} {F F1 F2 H H1 H2 : Hp} {σ : L2.St} {ρ ρ1 : Rho} {α α1 : Al} {i : Nat} {ta tb tc : TE} {ma mb mc : M}
theorem it_sq {a : Addr} {vs : List V} {ds : List D} (h : ∀ H, Lx F1 H → SqL G.K H a vs) (r : Reps G F1 vs ds) : ItSem G F1 H1 (Itl G.K a) ds := fun {F' H'} i e1 e2 _ => by
  have hs : SqL G.K H' a vs := h _ (Lx.pre e1 e2)
  refine ⟨fun hi => ?_, fun hi => ?_, fun x H'' d hd y => ?_⟩
  · have hi' : i < vs.length := by rw [r.length]; exact hi
    exact ⟨vs, vs[i], hs, by simp [hi']⟩
  · exact ⟨vs, hs, by rw [r.length]; exact hi⟩
  · obtain ⟨rfl, y⟩ := y
    obtain ⟨v, h1, h2⟩ := r.get hd
    have := y vs hs
    rw [h1] at this
    cases this
    exact ⟨F', Ex.refl F', Ex.refl _, fun _ _ z => .inl z, e2, h2.mono e1⟩
theorem rep_scr {v : V} {ns : List Int} (h : Rep G F v (.scr ns)) : ∃ a, v = .ref a ∧ ∀ H, Lx F H → SqL G.K H a (ns.map V.int) := by
  have e : ∀ H, Lx F H → ∃ a, v = .ref a ∧ SqL G.K H a (ns.map V.int) := fun H e => RepX.scr (.inl h) e
  obtain ⟨a, rfl, _⟩ := e F (.of (Ex.refl F))
  refine ⟨a, rfl, fun H x => ?_⟩
  obtain ⟨b, q, hb⟩ := e H x
  cases q
  exact hb
end

/-! x[i] of lists, tuples, texts, dicts -/
theorem ix_dget {X : Cx} (hu : X.A.units + 1 < cLine) : IxR X rDGet := by
  intro val ix pns s σ H x y v u Q inv rx ry got plain
  obtain ⟨a, z, ex, g, q⟩ := got
  subst ex
  cases rx
  have isD : s.TypeIs (.ref a) "dict" := by
    rcases g with g | g
    · obtain ⟨kvs, k, e, _⟩ := g
      obtain ⟨_, _, _, _, m⟩ := dk_rd inv.hok e
      exact m.mapOf.typeIs
    · obtain ⟨kvs, k, b, e, _⟩ := g
      obtain ⟨_, _, _, _, m⟩ := dt_rd inv.hok e
      obtain ⟨o, _, _, ho, hx, _⟩ := m
      exact ⟨o, ho, hx.1⟩
  refine tail_any isD slot_dict_getitem.lookup ?_ plain
  exact d_getItem hu inv g ry fun w' s' J r => ⟨z, H, J, r, q⟩
abbrev rIxA (K : PySem.W.Frag) : R2 := fun x y H Q => rIx K x y H Q ∨ rDGet x y H Q
theorem ix_all {X : Cx} (hu : X.A.units + 1 < cLine) : IxR X (rIxA X.K) := ix_seq.or (ix_dget hu)
def fIxA : D → D → Option O := fOr fIx fDGet
theorem os_ixA {G : Cn} : OSem G (rIxA G.K) fIxA := os_or os_ix os_dget
/-! a + b, a * b -/
abbrev rAddA (K : PySem.W.Frag) : R2 := fun x y H Q => rI0 (fun i j => .int (i + j)) x y H Q ∨ (rCat x y H Q ∨ (rCatA K x y H Q ∨ ∃ i j, x = .str i ∧ y = .str j ∧ i.length + j.length ≤ sizeLine ∧ Q (.str (i ++ j)) H))
theorem op_addA {X : Cx} : OpR X (binaryOp .Add) (rAddA X.K) := op_add.or (op_cat.or (op_catA.or op_add_str))
def fAddA : D → D → Option O := fOr (fInt fun i j => i + j) (fOr fCatL (fOr fCatT fCatS))
theorem os_addA {G : Cn} : OSem G (rAddA G.K) fAddA := os_or os_int (os_or os_cat (os_or os_catA os_catS))
abbrev rMulA (K : PySem.W.Frag) : R2 := fun x y H Q => rI CMul (fun i j => .int (i * j)) x y H Q ∨ (rRepT K x y H Q ∨ rRep x y H Q)
theorem op_mulA {X : Cx} : OpR X (binaryOp .Mult) (rMulA X.K) := op_mul.or (op_repT.or op_rep)
def fMulA : D → D → Option O := fOr (fIntC bMul fun i j => i * j) (fOr fRepT fRepL)
theorem os_mulA {G : Cn} : OSem G (rMulA G.K) fMulA := os_or os_mul (os_or os_repT os_rep)
/-! a in b -/
abbrev rInA (K : PySem.W.Frag) (neg : Bool) : R2 := fun x y H Q => rDIn neg x y H Q ∨ rIn K neg x y H Q
def fInA (neg : Bool) : D → D → Option O := fOr (fDIn neg) (fIn neg)
theorem os_inA {G : Cn} {neg : Bool} : OSem G (rInA G.K neg) (fInA neg) := os_or os_din os_in

/-! ### calls of defs that never raise -/
section
variable {G : Cn} {E : XK}
theorem PostG.noex {F H : Hp} {α : Al} {A : Type} {okP : A → Rho → Prop} {r : Option (Rs A × Rho)} {E1 : XK} (h : PostG G E F H α okP r) (n : ∀ c f ρ', r ≠ some (.ex c f, ρ')) : PostG G E1 F H α okP r := by
  match r, h with
  | none, h => exact h
  | some (.ok o, ρ'), h => exact h
  | some (.ex c f, ρ'), h => exact (n c f ρ' rfl).elim
theorem mFn0_noex {np N : Nat} {body : MS} : ∀ os c f os', mFn0 np N body os ≠ some (.ex c f, os') := fun os c f os' h => by
  unfold mFn0 at h
  split at h
  · cases h
  · cases h
theorem tCall0 {fn : Fn} {n : Nat} {t : TA} (hn : ∀ os c f os', fn os ≠ some (.ex c f, os')) {σ : L2.St} {H : Hp} {Q : VK} (h : tCall (spF G fn n) [] E t σ H Q) (hm : ∀ {σ : L2.St} {H : Hp} {R R' : List V → Hp → Prop}, (∀ vs H', R vs H' → R' vs H') → t σ H R → t σ H R') : tCall (spF G fn n) [] E0 t σ H Q :=
  hm (fun vs H' ⟨l, F, os, α, S, p⟩ => ⟨l, F, os, α, S, p.noex fun c f ρ' e => by
    unfold retR at e
    cases q : fn os with
    | none => rw [q] at e; cases e
    | some x =>
      rw [q] at e
      obtain ⟨r, os'⟩ := x
      cases e
      exact hn _ _ _ _ q⟩) h
end
end VL

namespace VL
open PySem PySem.Spec
open PyProof.Rows L2
open Evl (Ex sz_of)

/-! ### a def of the text by name; its promise -/
structure DefAt (K : PySem.W.Frag) (x qual : Str) (st : Stmt) (f : Addr) (ps : List Str) : Prop where
  fu : ∃ fd, Fun K x qual st f fd ∧ Binds K fd ps []
structure OkAt (P : Program) (w : World) (K : PySem.W.Frag) (mg : Str → Option Value) (base : Heap) (CX : CXT) (k : Nat) (f : Addr) (ps : List Str) (sp : Sp) : Prop where
  ok : ∃ fd, FnOk P w K mg base CX k f fd ps sp ∧ Binds K fd ps [] ∧ PySem.W.keepIn K (.ref f) = true
section
variable {P : Program} {w : World} {K : PySem.W.Frag} {mg : Str → Option Value} {base : Heap} {cl : Nat → Addr}
theorem okat0 {x qual : Str} {st : Stmt} {f : Addr} {Ns ps : List Str} {k np : Nat} {m : MS} (D : DefAt K x qual st f ps) (S : FnScope Ns ps (defScope st)) (hp : ps.length = np) (hN : np ≤ Ns.length)
    (hbody : ∀ (cdv : Value) (A : Around) (outer : List Env) (s : Shared) (H : Hp) (E : XK), Room k (A.deeper (envOfC qual (defScope st) s.heap.objs.size f cdv)) →
      ∃ t, PSs (cxOf CX0 P w K mg base Ns qual (defScope st) f cdv A outer s H E).nox (defBody st) t ∧ SemS ⟨K, cl, w⟩ E0 t m) : OkAt P w K mg base CX0 (k + 1) f ps (spF ⟨K, cl, w⟩ (mFn0 np Ns.length m) np) := by
  obtain ⟨fd, F, B⟩ := D.fu
  exact ⟨fd, fn_ok0 F S hp hN hbody, B, F.kp⟩
end
section
variable {X : Cx} {x : Str} {p pos : Pos} {e : Expr} {es : List Expr} {t : TA} {f : Addr} {k : Nat} {ps : List Str} {sp : Sp}
theorem pe_callO (O : OkAt X.prog X.w X.K X.mg X.base CX0 k f ps sp) (hr : Room k X.A) (hm : X.mg x = some (.ref f)) (ha : PA X (e :: es) t) (hg : Gl X x := by rfl)
    (he : starEach (e :: es) X.env = (false, eval e X.env) :: starEach es X.env := by rfl) (hpl : (backTo pos (starEach es X.env)).any (·.1) = false := by rfl) (hdb : (x == ("__debug__" : Str)) = false := by decide) :
    PE X (.Call (.Name x p) (e :: es) [] pos) (tCall sp [] E0 t) := by
  obtain ⟨fd, F, B, kp⟩ := O.ok
  exact pe_call F hr hg hm kp B .nil pass0 ha hdb he hpl
theorem pe_callO0 (O : OkAt X.prog X.w X.K X.mg X.base CX0 k f ps sp) (hr : Room k X.A) (hm : X.mg x = some (.ref f)) (hg : Gl X x := by rfl)
    (hdb : (x == ("__debug__" : Str)) = false := by decide) : PE X (.Call (.Name x p) [] [] pos) (tCall sp [] E0 tNil) := by
  obtain ⟨fd, F, B, kp⟩ := O.ok
  exact pe_call0 F hr hg hm kp B .nil pass0 hdb
end
theorem pe_k {X : Cx} {x : Str} {v : V} {pos : Pos} (hk : ∃ u, X.mg x = some u ∧ RelV v u) (hg : Gl X x := by rfl) (hd : (x == ("__debug__" : Str)) = false := by decide) : PE X (.Name x pos) (tC v) := by
  obtain ⟨u, hm, r⟩ := hk
  exact pe_glob hg hm r hd
/-! an argument that is looked at where it stands -/
def aSl (i : Nat) (mr : MA) : MA := fun ρ => (look ρ i).bind fun _ => aIo i mr ρ
theorem semA_sl {G : Cn} {E : XK} {i : Nat} {tr : TA} {mr : MA} (hr : SemA G E tr mr) : SemA G E (tCons (tVar i) tr) (aSl i mr) := semA_io hr

theorem CallR.orC {X : Cx} {f : Value} {r r' : List V → Hp → VK → Prop} (h : CallR X f r) (h' : CallR X f r') : CallR X f (fun xs H Q => r xs H Q ∨ r' xs H Q) := by
  intro pins s σ H xs us Q I rx q
  rcases q with q | q
  · exact h pins s σ H xs us Q I rx q
  · exact h' pins s σ H xs us Q I rx q
theorem call_lists {X : Cx} (hc : X.calm = true) : CallR X (.type "list") (fun xs H Q => (∃ p ys, xs = [.ref p] ∧ (SqL X.K H p ys ∨ SqT X.K H p ys) ∧ ∀ l, H l = none → Q (.ref l) (upd H l (.lst ys))) ∨
    ∃ (a : Addr) (kvs : List (Key × V)), xs = [.ref a] ∧ Rd H a (.dK kvs) ∧ ∀ p, H p = none → Q (.ref p) (upd H p (.lst (kvs.map fun kv => kV kv.1)))) := CallR.orC call_list_of (call_listD hc)
/-- len of lists, tuples, texts, dicts of any kind -/
def rLenW (w : World) : List V → Hp → VK → Prop := fun xs H Q => (∃ a kvs, xs = [V.ref a] ∧ Rd H a (.dK kvs) ∧ Q (.int kvs.length) H) ∨ ∃ a ys, xs = [V.ref a] ∧ Rd H a (NDo w a ys) ∧ KsOk H ys ∧ Q (.int ys.length) H
theorem call_lenW {X : Cx} : CallR X (.builtin "len") (rLenW X.w) := by
  intro pins s σ H xs us Q I r h
  have l62 := line62
  rcases h with ⟨a, kvs, rfl, rd, q⟩ | ⟨a, ys, rfl, rd, ks, q⟩
  · obtain ⟨u, rfl, rx⟩ := vals1 r
    obtain rfl : u = .ref a := rx
    obtain ⟨z, hd, vs, rel, dd⟩ := dk_rd I.hok rd
    have hl := rel.length
    refine call_len_dict hd dd (by omega) ⟨.int kvs.length, H, I.tok _, ?_, q⟩
    rw [hl]
    exact ⟨_, rfl⟩
  · obtain ⟨u, rfl, rx⟩ := vals1 r
    obtain rfl : u = .ref a := rx
    obtain ⟨z, hd, zs, p, dd⟩ := nd_of I.hok rd ks
    have hl : ys.length = zs.length := Paired.length p
    refine call_len_dictH hd dd (by omega) ⟨.int ys.length, H, I.tok _, ?_, q⟩
    rw [hl]
    exact ⟨_, rfl⟩
theorem call_lens {X : Cx} : CallR X (.builtin "len") (fun xs H Q => (∃ x n, xs = [x] ∧ LenV X.K x H n ∧ Q (.int n) H) ∨ rLenW X.w xs H Q) := CallR.orC call_len call_lenW
def fLenD : List D → Option O
  | [.dic ds] => some (.val (.int ds.length))
  | [.dcn ds] => some (.val (.int ds.length))
  | _ => none
theorem RepsN.length {G : Cn} {H : Hp} : ∀ {xs : List (NestedKey × Addr × V)} {ds : List (NestedKey × D)}, RepsN G H xs ds → xs.length = ds.length
  | _, [], h => by
    unfold RepsN at h
    subst h
    rfl
  | _, (k, d) :: ds, h => by
    unfold RepsN at h
    obtain ⟨q, v, r, rfl, _, _, t⟩ := h
    rw [List.length_cons, List.length_cons, RepsN.length t]
theorem cs_lenD {G : Cn} : CSem G (rLenW G.w) fLenD := fun {E F H σ ρ α Q vs ds} S hv h => by
  unfold fLenD at h
  split at h
  · obtain ⟨v, rfl, hx⟩ := hv.one
    obtain ⟨a, ws, rfl, h1, h2⟩ := hx.k S.ex
    exact .inl ⟨a, ws, rfl, h1, by rw [h2.length]; exact Post.val h S Rep.ofInt⟩
  · obtain ⟨v, rfl, hx⟩ := hv.one
    obtain ⟨a, ws, rfl, h1, h2, ks⟩ := hx.n S.ex
    exact .inr ⟨a, ws, rfl, h1, ks, by rw [h2.length]; exact Post.val h S Rep.ofInt⟩
  · exact h.elim
theorem ix_of_kd {X : Cx} {d : Addr} {es : Array DictEntry} {n : Nat} (D : KDict X.K X.w d es n) : IxR X (rTabGet X.K d) := by
  intro val ix pns s σ H x y v u Q inv rx ry got plain
  have g := op_item_kd D pns s σ H _ _ v u Q inv rx ry got
  obtain ⟨_, _, _, ex, _⟩ := got
  subst ex
  cases rx
  exact tail_any (kd_type D inv) slot_dict_getitem.lookup g plain
def sNever : MS := fun _ _ => none
theorem semS_never {G : Cn} {E : XK} : SemS G E tNever sNever := ⟨fun S h => h.elim⟩
section
variable {G : Cn} {E : XK} {F F1 F2 H H1 H2 : Hp} {σ : L2.St} {ρ ρ1 : Rho} {α α1 : Al} {i : Nat} {ta tb tc : TE} {ma mb mc : M}
theorem Ste.poke {p : Addr} {o : HO} (S : Ste G F H σ ρ α) (hF : F p = none) (hO : ¬ Own α p) : Ste G F (upd H p o) σ ρ α where
  ex := fun a u e => by
    have : a ≠ p := fun q => by
      rw [q, hF] at e
      cases e
    rw [upd_ne this]
    exact S.ex a u e
  len := S.len
  slot := fun j x e => by
    obtain ⟨v, h1, r⟩ := S.slot j x e
    refine ⟨v, h1, r.move (Ex.refl F) (fun b hb => (r.mem b hb).1) fun b hb u y => ?_⟩
    have : b ≠ p := fun q => hO (q ▸ ⟨j, hb⟩)
    rw [upd_ne this]
    exact y
  off := S.off
  dis := S.dis
def mD1 (k v : M) : M := fun ρ => bnd (k ρ) fun x ρ1 => bnd (v ρ1) fun y ρ2 => (keyD x.frz).map fun kk => (.ok (.dic [(kk, y.frz)]), ρ2)
theorem sem_d1 (ha : Sem G E ta ma) (hb : Sem G E tb mb) : Sem G E (tDisp [(ta, tb)]) (mD1 ma mb) := ⟨fun {F H σ ρ α Q} S h p hp => by
  have fp := S.fresh hp
  have np := S.notown hp
  have h0 : PostG G E F (upd H p (.dK [])) α (okV G F H σ α Q) (mD1 ma mb ρ) := PostG.shift (Ste.putStp hp) .refl h fun _ _ x => x
  refine ha.run (S.put hp) (Post.to h0 fun x ρ1 v F1 H1 α1 S1 r1 T1 N1 h1 => ?_)
  have h1' : PostG G E F1 H1 α1 (okV G F H σ α Q) _ := PostG.shift T1 N1 h1 fun _ _ x => x
  refine hb.run S1 (Post.to h1' fun y ρ2 u F2 H2 α2 S2 r2 T2 N2 h2 => ?_)
  have p1 : H1 p = some (.dK []) := T1.kept upd_same np (.inl fp)
  have o1 : ¬ Own α1 p := fun z => (N1 p z).elim np fun z => by rw [upd_same] at z; cases z
  have o2 : ¬ Own α2 p := fun z => (N2 p z).elim o1 fun z => by rw [p1] at z; cases z
  have f1 : F1 p = none := by
    cases e : F1 p with
    | none => rfl
    | some u =>
      rcases T1.newF p u e with z | z | z
      · rw [fp] at z; cases z
      · rw [upd_same] at z; cases z
      · exact (np z).elim
  have f2 : F2 p = none := by
    cases e : F2 p with
    | none => rfl
    | some u =>
      rcases T2.newF p u e with z | z | z
      · rw [f1] at z; cases z
      · rw [p1] at z; cases z
      · exact (o1 z).elim
  have p2 : H2 p = some (.dK []) := T2.kept p1 o1 (.inl f1)
  refine ⟨p2, ?_⟩
  cases e : keyD x.frz with
  | none => rw [e] at h2; exact h2.elim
  | some kk =>
    rw [e] at h2
    have kv : v = kV kk := key_x (.inl (r1.mono T2.exF) : RepX G F2 H2 v x.frz) e
    subst kv
    refine ⟨[(kk, u)], rfl, (by show 1 ≤ 15; decide), ?_⟩
    have T : Stp (Own α) F (upd H p (.dK [])) F2 H2 := T1.trans T2 N1
    refine h2 (.ref p) F2 _ α2 [p] (S2.poke f2 o2) ⟨p, [(kk, u)], rfl, rfl, f2, upd_same, RepsK.cons r2 RepsK.nil⟩ ⟨T.exF, fun b o hb nb => ?_, fun b o hb => ?_⟩ (fun a ha z => ?_) fun a z => ?_
    · have hbp : b ≠ p := ne_of_none hb hp
      rw [upd_ne hbp]
      exact T.keep b o (by rw [upd_ne hbp]; exact hb) nb
    · rcases T.newF b o hb with z | z | z
      · exact .inl z
      · refine .inr (.inl ?_)
        by_cases q : b = p
        · rw [q]; exact hp
        · rwa [upd_ne q] at z
      · exact .inr (.inr z)
    · have : a = p := by simpa using ha
      subst this
      exact o2 z
    · rcases z with z | z
      · have N : New (Own α) (upd H p (.dK [])) (Own α2) := New.trans T1 N1 N2
        rcases N a z with y | y
        · exact .inl y
        · refine .inr ?_
          by_cases q : a = p
          · rw [q]; exact hp
          · rwa [upd_ne q] at y
      · have : a = p := by simpa using z
        subst this
        exact .inr hp⟩
end
theorem pe_d1 {X : Cx} {k v : Expr} {pos : Pos} {tk tv : TE} (hk : PE X k tk) (hv : PE X v tv) : PE X (.Dict [some k] [v] pos) (tDisp [(tk, tv)]) :=
  pe_disp (pps_cons hk hv pps_nil) rfl rfl (by intro h; cases h) (by show 1 ≤ 15; decide)
end VL

/-! An error class whose __init__ says super().__init__(f'..{part}') and keeps part. -/
namespace VX
open PySem PySem.W PySem.Calls PyProof.Rows PySem.HandSPX
/-- the two readings of a list of own classes ahead of ValueError's say the same -/
theorem tail_same (l : List Value) : refsVE l = true → excTail veTail l = true := by
  induction l with
  | nil => exact fun e => e
  | cons a r ih => cases a <;> first | exact fun e => ih e | exact fun e => e
theorem made_in {K : Frag} {C N : Addr} {nm q : Str} {bs bm sub : List Value} {sn : List Str} {ab : Bool} {col : Option Bool} {dd : Option Addr} {k0 k1 k2 k3 k5 : Option Value}
    (h : K.lookup C = some (excClassObj nm q C N bs bm true sn sub ab col dd k0 k1 k2 k3 k5 "ValueError.__new__")) (hb : refsVE bm = true) : excInitIn K C veTail "ValueError.__new__" = true := by
  unfold excInitIn
  rw [h]
  simp [tail_same _ hb]
/-- the bound __init__ of ValueError, called: over what stood ahead of the error -/
theorem super_called {P : Program} {w : World} {K : Frag} {A : Around} {E : Value → Shared → Prop} {s : Shared} {base : Heap} {L C u e t0 : Addr} {m : Str → Option Value} {rest : List Value} {Q : Value → Shared → Prop}
    (X0 : K.In base) (hk : ∀ b o, base.get? b = some o → s.heap.get? b = some o) (hL : base.objs.size ≤ L) (hns : s.heap.Ns L m) (he : s.heap.get? e = some (excO C t0)) (hu : s.heap.get? u = some (kxs_mw "ValueError.__init__" e))
    (eb : base.get? e = none) (ub : base.get? u = none) (eL : e ≠ L) (uL : u ≠ L) (ue : u ≠ e) (q : excInitIn K C veTail "ValueError.__new__" = true) (hr : rest.length ≤ sizeLine)
    (k : ∀ h' t1, h'.Ns L m → (∀ b o, base.get? b = some o → h'.get? b = some o) → h'.get? e = some (excO C t1) → Q .none { s with heap := h' }) : wpAny (model P w) A (call (.ref u) rest) Q E s := by
  have fr : Fr base L s.heap m := ⟨hns, hk, hL⟩
  have nw : News base L s.heap [(u, kxs_mw "ValueError.__init__" e), (e, excObj C t0 none .none)] := by
    intro p hp
    simp only [List.mem_cons, List.not_mem_nil, or_false] at hp
    rcases hp with z | z
    · subst z
      exact ⟨hu, uL, ub⟩
    · subst z
      exact ⟨he, eL, eb⟩
  refine kxs_call (nw := fun o => [(u, kxs_mw "ValueError.__init__" e), (e, o)]) fr X0 nw F.excBase_ValueError q List.mem_cons_self (.tail ue (.head fun p hp => nomatch hp)) hr ?_
  intro t' h' fr' nw' _
  exact k h' t' fr'.ns fr'.keep (nw' (e, excObj C t' none .none) (by simp)).1
/-! ### the text -/
structure Ps where
  a1 : Pos
  a2 : Pos
  a3 : Pos
  p0 : Pos
  p1 : Pos
  p2 : Pos
  p3 : Pos
  p4 : Pos
  p5 : Pos
  p6 : Pos
  p7 : Pos
  p8 : Pos
  q1 : Pos
  q2 : Pos
  q3 : Pos
  q4 : Pos
def iA (p : Ps) : Arguments := { posonlyargs := [], args := [{ arg := "self", annotation := none, pos := p.a1 }, { arg := "part", annotation := none, pos := p.a2 }], vararg := none, kwonlyargs := [], kw_defaults := [], kwarg := none, defaults := [.Constant .none 0 p.a3] }
def iB (msg : Str) (p : Ps) : List Stmt := [.Expr (.Call (.Attribute (.Call (.Name "super" p.p0) [] [] p.p1) "__init__" p.p2) [.JoinedStr [.Constant (.str msg) 0 p.p3, .FormattedValue (.Name "part" p.p4) (-1) none p.p5] p.p6] [] p.p7) p.p8,
  .Assign [.Attribute (.Name "self" p.q1) "part" p.q2] (.Name "part" p.q3) p.q4]
def iS : Scope := { kind := .function, names := [("self", .local), ("part", .local), ("__class__", .free), ("super", .globalImplicit)], isGenerator := false, isCoroutine := false, more := [] }
def iJ (msg : Str) (p : Ps) : Expr := .JoinedStr [.Constant (.str msg) 0 p.p3, .FormattedValue (.Name "part" p.p4) (-1) none p.p5] p.p6
def MCall (msg : Str) (p : Ps) (pl : Sem Bool) : Prop := ∀ env : Env, eval (.Call (.Attribute (.Call (.Name "super" p.p0) [] [] p.p1) "__init__" p.p2) [iJ msg p] [] p.p7) env = (do
  let ov ← attributeBase (.Call (.Name "super" p.p0) [] [] p.p1) "__init__" env (eval (.Call (.Name "super" p.p0) [] [] p.p1) env)
  standAt p.p2.atName
  let (g, fst) ← holding [ov] (getMethod ov "__init__" pl)
  callWith p.p7 g fst (backTo p.p7 (starEach [iJ msg p] env)) [])
/-- what the written part says of the class at C, of its __init__ at fI -/
structure BadTxt (P : Program) (K : Frag) (mg : Str → Option Value) (C fI : Addr) (fd : FuncData) : Prop where
  cls : ∃ nm q N bs bm sn sub ab col dd k0 k1 k2 k3 k5, K.lookup C = some (excClassObj nm q C N bs bm true sn sub ab col dd k0 k1 k2 k3 k5 "ValueError.__new__") ∧ refsVE bm = true
  sa : findIn K (.ref C) "__setattr__" = some (some (.builtin "object.__setattr__"))
  noP : findIn K (.ref C) "part" = some none
  iC : findIn K (.ref C) "__init__" = some (some (.ref fI))
  tI : typeIn K (.ref fI) = some (.type "function")
  kC : keepIn K (.ref C) = true
  exC : subIn K (.ref C) (.type "BaseException") = some true
  tyC : typeIn K (.ref C) = some (.type "type")
  subV : subIn K (.ref C) (.type "ValueError") = some true
  sup : ks_superIn K C C "__init__" = some (some (.builtin "ValueError.__init__"))
  mroC : mroIn K C (.ref C) = some true
  opq : nsIn K cStatics "thirdparty.any" = some none
  gS : mg "super" = none
  htop : (P.main.scope.names.lookup ("super" : Str)).isSome = false
  fn : ∃ (msg qual : Str) (p : Ps) (oc dV kV doc pm ct ccl cl : Value) (od an cdd cld : Option Addr) (osl ccs csl : Array (Option Value)) (cc cda : Addr) (vs : Array Value) (file : Str) (tf : Tok) (pl : Sem Bool), MCall msg p pl ∧
    fd = ksFn "__init__" qual (iA p) (iB msg p) iS dV kV doc pm an (.ref cda) ct cc ∧ K.lookup fI = some ⟨oc, od, .func fd, osl⟩ ∧ codeIn K (.ref cda) qual = true ∧
    K.lookup cda = some ⟨ccl, cdd, .fields vs, ccs⟩ ∧ vs[2]? = some (.str file tf) ∧ ((P.main.file : Str) == file) = true ∧ K.lookup cc = some ⟨cl, cld, .cell (some (.ref C)), csl⟩ ∧ msg.length ≤ 1000
theorem nmS : iS.names.lookup ("super" : Str) = some .globalImplicit := by decide +kernel
theorem nmC : iS.names.lookup ("__class__" : Str) = some .free := by decide +kernel
theorem nmSelf : iS.names.lookup ("self" : Str) = some .local := by decide +kernel
theorem nmPart : iS.names.lookup ("part" : Str) = some .local := by decide +kernel
theorem lkSelf {a b : Value} : List.lookup ("self" : Str) [(("self" : Str), a), ("part", b)].reverse = some a := by
  show List.lookup ("self" : Str) [(("part" : Str), b), ("self", a)] = some a
  rw [List.lookup_cons, show (("self" : Str) == "part") = false by decide +kernel]
  dsimp only
  rw [List.lookup_cons, show (("self" : Str) == "self") = true by decide +kernel]
theorem lkPart {a b : Value} : List.lookup ("part" : Str) [(("self" : Str), a), ("part", b)].reverse = some b := by
  show List.lookup ("part" : Str) [(("part" : Str), b), ("self", a)] = some b
  rw [List.lookup_cons, show (("part" : Str) == "part") = true by decide +kernel]
section
variable {P : Program} {w : World} {A : Around} {E : Value → Shared → Prop} {R : Result → Shared → Prop} {s : Shared} {K : Frag} {mg : Str → Option Value} {C fI : Addr} {fd : FuncData}
theorem bad_init (T : BadTxt P K mg C fI fd) {base : Heap} {x t0 : Addr} {v : Str} {tv : Tok} {mb : Str → Option Value} {args : Args} (X0 : K.In base) (kb : ∀ b o, base.get? b = some o → s.heap.get? b = some o) (xb : base.get? x = none) (zb : base.objs.size ≤ s.heap.objs.size) (hlim : s.heap.NoLimit) (hG : s.heap.Ns mainGlobals mg) (hB : s.heap.Ns builtinsNs mb) (hmb : mb "super" = bootBuiltins "super")
    (hx : s.heap.get? x = some (excO C t0)) (hv : v.length ≤ 1000) (hroom : A.depth < recursionLimit) (hbind : BindsTo s fd args [("self", .ref x), ("part", .str v tv)])
    (hq : ∀ h' tk dx t1, (∀ b o, base.get? b = some o → h'.get? b = some o) → s.heap.objs.size ≤ dx → dx ≠ x → h'.get? x = some { cls := .ref C, dict := some dx, data := .fields #[.ref t1, .none, .none, .none, .bool false, .none] } →
      h'.Ns1 dx (fun y => if y = "part" then some (.str v tv) else none) → R (.ok (.ret .none)) { s with heap := h', toks := tk }) :
    codeAny (model P w) A (.call (.ref fI) args) R s := by
  have X : K.In s.heap := X0.keeps kb
  obtain ⟨msg, qual, p, oc, dV, kV, doc, pm, ct, ccl, cl, od, an, cdd, cld, osl, ccs, csl, cc, cda, vs, file, tf, pl, hpl, rfl, ho, hcd, hcda, hvs, hfile, hcell, hmsg⟩ := T.fn
  obtain ⟨nm, q, N, bs, bm, sn, sub, ab, col, dd, k0, k1, k2, k3, k5, hC, hbm⟩ := T.cls
  have hcl : clsIn K C = some { name := nm, bases := bs, mro := .ref C :: bm, ns := N, qualname := q, hasDict := true, slotNames := sn, subclasses := sub, abstract := ab, collection := col, hasDel := false } := by unfold clsIn; rw [hC] <;> rfl
  have hxC : x ≠ C := fun z => by
    have e := X _ _ hC
    rw [← z, hx] at e
    cases e
  refine ks_codeAny_call_defAt (body := iB msg p) (binds := [("self", .ref x), ("part", .str v tv)]) hroom (X _ _ ho) rfl hlim (codeRec_of X hcd) rfl hbind (show ∀ y ∈ iS.names, y.2 ≠ .cell by decide +kernel) (fun y hy => ?_) (fun h₁ hns k₁ => ?_)
  · rcases List.mem_cons.mp hy with rfl | hy
    · show iS.names.lookup ("self" : Str) = some .local
      decide +kernel
    · rcases List.mem_cons.mp hy with rfl | hy
      · show iS.names.lookup ("part" : Str) = some .local
        decide +kernel
      · cases hy
  have X₁ : K.In h₁ := X.keeps k₁
  have hD1 := X₁ _ _ hC
  have hx₁ := k₁ _ _ hx
  have hLx : s.heap.objs.size ≠ x := Nat.ne_of_gt (Heap.lt_size hx)
  refine ks_wpAt_execs_cons (ks_wpAt_Expr_any (ks_wpAt_MethodCall ?_ (hpl _)))
  refine ks_wpAt_super_base nmS nmC (by decide +kernel) rfl (X₁ _ _ ho) rfl (ar := { arg := "self", annotation := none, pos := p.a1 }) rfl rfl (X₁ _ _ hcda) rfl hvs hfile T.htop ?_
  refine ks_loadName_global rfl nmS (loadGlobal_builtin (hG.keeps k₁) T.gS (hB.keeps k₁) (hmb.trans (by decide +kernel)) ⟨rfl, ?_⟩)
  refine wpAny_loadName_free rfl nmC rfl ⟨_, X₁ _ _ hcell, rfl⟩ ?_
  refine wpAny_loadName_local rfl nmSelf hns (v := .ref x) lkSelf ?_
  refine ks_wpAny_isType_cls hD1 rfl ⟨rfl, ?_⟩
  refine ks_wpAny_call_super hD1 rfl hx₁ rfl (fun c e => nomatch e) (looks_mroIn X₁ T.mroC) (fun h₂ e₂ k₂ => ?_)
  have X₂ : K.In h₂ := X₁.keeps k₂
  have hx₂ := k₂ _ _ hx₁
  have I₂ : InstAt h₂ x (excO C t0) C none := ⟨hx₂, rfl, rfl, trivial⟩
  refine kxs_getMethod kxs_ValueError e₂ (looks_opaque X₂ T.opq) (l₀ := .ref C :: bm) ?mro rfl X₂ (by have := T.sup; unfold ks_superIn at this; rw [hcl] at this; exact this) (I₂.type.andThen (looks_subIn X₂ T.subV)) hxC (by decide +kernel) ?_
  case mro => exact fun A Q E s k q => wpAny_bind ((looks_clsIn X₂ hcl) A _ E s k (wpAny_pure q))
  have k₃ : ∀ b o, h₂.get? b = some o → (h₂.push (kxs_mw "ValueError.__init__" x)).get? b = some o := fun b o e => Heap.get?_push_of_some _ e
  have hu : (h₂.push (kxs_mw "ValueError.__init__" x)).get? h₂.objs.size = some (kxs_mw "ValueError.__init__" x) := Heap.get?_push_size _ rfl
  generalize hh₃ : h₂.push (kxs_mw "ValueError.__init__" x) = h₃ at k₃ hu
  have hns₃ := (hns.keeps k₂).keeps k₃
  have X₃ : K.In h₃ := X₂.keeps k₃
  have hx₃ := k₃ _ _ hx₂
  have e0 : (Str.empty ++ msg).length = msg.length := by rw [Str.length_append]; show 0 + _ = _; omega
  have l1 : (Str.empty ++ msg).length ≤ sizeLine := by rw [e0, sizeLine_eq]; omega
  have l2 : (Str.empty ++ msg ++ v).length ≤ sizeLine := by rw [Str.length_append, e0, sizeLine_eq]; omega
  have hvz : v.length ≤ sizeLine := by rw [sizeLine_eq]; omega
  refine kxs_callWith (i := "ValueError.__init__") (x := x) rfl (evalArgs_plain ?_)
  refine Calls.spliced_cons (wpAny_JoinedStr (pos := p.p6) ?_)
  refine Calls.Constant_str ⟨msg, _, rfl, l1, ?_⟩
  refine wpAny_FormattedValue_plain (wpAny_Name (wpAny_loadName_local rfl nmPart hns₃ lkPart ?_) (by decide))
  refine wpAny_formatField_str (x := v) ?_ ?_ hvz
  all_goals
    refine ⟨v, _, rfl, l2, l2, ?_⟩
    refine Calls.spliced_nil ⟨hu, ?_⟩
    have hL₃ : ∀ b o, base.get? b = some o → h₃.get? b = some o := fun b o e => k₃ b o (k₂ b o (k₁ b o (kb b o e)))
    have lt₁ : s.heap.objs.size < h₂.objs.size := by
      obtain ⟨oL, _, _, eL, _⟩ := hns.keeps k₂
      exact Heap.lt_size eL
    have uL : h₂.objs.size ≠ s.heap.objs.size := Nat.ne_of_gt lt₁
    have ux : h₂.objs.size ≠ x := Nat.ne_of_gt (Heap.lt_size hx₂)
    have ub : base.get? h₂.objs.size = none := by
      cases e : base.get? h₂.objs.size with
      | none => rfl
      | some o => exact absurd (Nat.lt_of_lt_of_le (Heap.lt_size e) zb) (Nat.not_lt.mpr (Nat.le_of_lt lt₁))
    refine super_called (t0 := t0) X0 hL₃ zb hns₃ hx₃ hu xb ub (Ne.symm hLx) uL ux (made_in hC hbm) (by rw [sizeLine_eq]; show 1 ≤ 16777216; decide) fun h₄ t1 hns₄ k₄ hx₄ => ?_
    have X₄ : K.In h₄ := X0.keeps k₄
    show PySem.wpAt _ _ _ (execs _ _) _ _ _
    refine ks_wpAt_execs_cons (ks_wpAt_Assign_Attr (wpAt_of_wpAny (wpAny_Name (wpAny_loadName_local rfl nmPart hns₄ lkPart ?_) (by decide))))
    refine wpAny_Name (wpAny_loadName_local rfl nmSelf hns₄ lkSelf ?_) (by decide)
    refine set_plain X₄ (ox := excO C t1) (od := none) ⟨hx₄, rfl, rfl, trivial⟩ T.sa ?_
    refine exc_osa X₄ hx₄ hcl (show refsVE (.ref C :: bm) = true from hbm) rfl T.noP (fun h₅ tk₅ dx k₅ dn dne hx₅ hn₅ => ?_)
    show PySem.wpAt _ _ _ (execs _ _) _ _ _
    refine wpAt_of_wpAny (wpAny_execs_nil ?_)
    have z1 : s.heap.objs.size ≤ h₄.objs.size := by
      obtain ⟨o, es, ep, e, _⟩ := hns₄
      exact Nat.le_of_lt (Heap.lt_size e)
    exact hq h₅ _ dx t1 (fun b o e => k₅ b o (fun z => by rw [z, xb] at e; cases e) (k₄ b o e)) (Nat.le_trans z1 dn) dne hx₅ hn₅
end
end VX

namespace VX
open PySem PySem.W PySem.Calls PyProof.Rows PySem.HandSPX
/-- Bad(part), made -/
theorem bad_made {P : Program} {w : World} {A : Around} {R : Result → Shared → Prop} {s : Shared} {K : Frag} {mg : Str → Option Value} {C fI : Addr} {fd : FuncData} (T : BadTxt P K mg C fI fd)
    {v : Str} {tv : Tok} {mb : Str → Option Value} (X : K.In s.heap) (hlim : s.heap.NoLimit) (hG : s.heap.Ns mainGlobals mg) (hB : s.heap.Ns builtinsNs mb) (hmb : mb "super" = bootBuiltins "super")
    (hv : v.length ≤ 1000) (hroom : A.depth + 1 < recursionLimit) (hbind : ∀ (s : Shared) (a : Addr), K.In s.heap → BindsTo s fd ⟨[.ref a, .str v tv], []⟩ [("self", .ref a), ("part", .str v tv)])
    (hq : ∀ h' tk e dx fv, (∀ b o, s.heap.get? b = some o → h'.get? b = some o) → s.heap.objs.size ≤ e → s.heap.objs.size ≤ dx → dx ≠ e → h'.get? e = some { cls := .ref C, dict := some dx, data := .fields fv } → fv[1]? = some .none →
      h'.Ns1 dx (fun y => if y = "part" then some (.str v tv) else none) → R (.ok (.ret (.ref e))) { s with heap := h', toks := tk }) :
    codeAny (model P w) A (.call (.ref C) ⟨[.str v tv], []⟩) R s := by
  obtain ⟨nm, q, N, bs, bm, sn, sub, ab, col, dd, k0, k1, k2, k3, k5, hC, hbm⟩ := T.cls
  obtain ⟨hp, g, dr, tk, os⟩ := s
  have k : ∀ b o, hp.get? b = some o → ((hp.push (kdv_tup [.str v tv])).push (excO C hp.objs.size)).get? b = some o := fun b o e => Heap.get?_push_of_some _ (Heap.get?_push_of_some _ e)
  have hget : ((hp.push (kdv_tup [.str v tv])).push (excO C hp.objs.size)).get? (hp.objs.size + 1) = some (excO C hp.objs.size) := by heap_get
  have xb : hp.get? (hp.objs.size + 1) = none := by
    cases e : hp.get? (hp.objs.size + 1) with
    | none => rfl
    | some o => exact absurd (Nat.lt_trans (Nat.lt_succ_self _) (Heap.lt_size e)) (Nat.lt_irrefl _)
  refine call_own F.excBase_ValueError (fun X => refsVE_contains X bm hbm) (X _ _ hC) (looks_findIn X T.iC) (fun self => bind_fn X self T.tI) (by rw [sizeLine_eq]; show 1 ≤ 16777216; decide) ?_
  refine bad_init (s := ⟨(hp.push (kdv_tup [.str v tv])).push (excO C hp.objs.size), g, dr, tk, os⟩) T X k xb ?_ (hlim.keeps k) (hG.keeps k) (hB.keeps k) hmb hget hv ?_ (hbind _ _ (X.keeps k)) fun h' tk' dx t1 k' dn dne hx hns => ?_
  · show hp.objs.size ≤ ((hp.push _).push _).objs.size
    rw [Heap.size_push, Heap.size_push]
    omega
  · exact hroom
  · have dn' : hp.objs.size ≤ dx := by
      refine Nat.le_trans ?_ dn
      show hp.objs.size ≤ ((hp.push _).push _).objs.size
      rw [Heap.size_push, Heap.size_push]
      omega
    exact ⟨rfl, hq h' tk' (hp.objs.size + 1) dx _ k' (Nat.le_succ _) dn' dne hx rfl hns⟩
end VX
namespace VL
open PySem PySem.Spec
open PyProof.Rows L2
open Evl (Ex sz_of)
theorem lkp {v : V} : List.lookup ("part" : Str) [(("part" : Str), v)] = some v := by
  rw [List.lookup_cons, show (("part" : Str) == "part") = true by decide +kernel]
theorem relO_part {v : V} {u : Value} (r : RelV v u) (f : Str) : RelO (List.lookup f [(("part" : Str), v)]) (if f = "part" then some u else none) := by
  by_cases e : f = "part"
  · subst e
    rw [if_pos rfl, lkp]
    exact r
  · rw [if_neg e, List.lookup_cons, show (f == ("part" : Str)) = false from beq_eq_false_iff_ne.mpr e]
    trivial
section
variable {X : Cx} {C fI : Addr} {fd : FuncData}
/-- Bad(e): a new dict d holds the part -/
def tMkBad (C : Addr) (ta : TA) : L2.St → Hp → XK → Prop := fun σ H Q => ta σ H fun vs H1 => ∃ v : Str, vs = [.str v] ∧ v.length ≤ 1000 ∧ ∀ d, H1 d = none → Q (.ref C) (some d) (upd H1 d (.xd [(("part" : Str), .str v)]))
theorem pmk_bad {a : Expr} {ta : TA} {x : Str} {p pos : Pos} {k : Nat} (T : VX.BadTxt X.prog X.K X.mg C fI fd) (hbind : ∀ (s : Shared) (a : Addr) (u : Value), X.K.In s.heap → BindsTo s fd ⟨[.ref a, u], []⟩ [("self", .ref a), ("part", u)])
    (hr : Room k X.A) (hm : X.mg x = some (.ref C)) (ha : PA X [a] ta) (hg : Gl X x := by rfl) (hdb : (x == ("__debug__" : Str)) = false := by decide)
    (he : starEach (a :: []) X.env = (false, eval a X.env) :: starEach [] X.env := by rfl) (hpl : (backTo pos (starEach [] X.env)).any (·.1) = false := by rfl) :
    PMk X (.Call (.Name x p) [a] [] pos) (tMkBad C ta) := by
  intro pins s σ H Q I h
  refine wpAny_Call_Name_kw (ld_glob I hg hm ?_ hdb)
  refine PySem.W.callWith_K (h₀ := X.base) I.ok.mod.kin T.kC (thn (ha.run pos pins s σ H _ I h) fun us s1 hh => ?_) he hpl
  obtain ⟨vs, H1, I1, r1, v, ev, hv, q1⟩ := hh
  subst ev
  refine ⟨I1.kIn, ?_⟩
  obtain ⟨u, rfl, tv, rfl⟩ := vals1 r1
  show wpAny _ _ (call (.ref C) [.str v tv]) _ _ _
  have hlim := I1.nolimit
  have hG := I1.mod.glob.keeps I1.bk
  obtain ⟨mb, h1, h2⟩ := I1.mod.blt
  have hB := h1.keeps I1.bk
  obtain ⟨hp, g, dr, tk, os⟩ := s1
  refine wpAny_call (VX.bad_made T I1.kIn hlim hG hB (h2 _ (by decide)) hv (by have := hr.dp; omega) (fun s a hk => hbind s a _ hk) fun h' tk' e d fv keep ebig dbig dne hoe h1 hns => ?_)
  show MkP X pins σ Q (.ref e) ⟨h', g, dr, tk', os⟩
  obtain ⟨G', g1, g2⟩ := restrict h' fun b => decide (b ≠ e)
  have gk : ∀ b, b ≠ e → G'.get? b = h'.get? b := fun b hb => g1 b (decide_eq_true hb)
  have ge : G'.get? e = none := g2 e (by simp)
  have old : ∀ b o, hp.get? b = some o → G'.get? b = some o := fun b o q => (gk b (Nat.ne_of_lt (Nat.lt_of_lt_of_le (Heap.lt_size q) ebig))).trans (keep b o q)
  have ob : ObjOk X.prog X.w (upd H1 d (.xd [(("part" : Str), .str v)])) G' d (.xd [(("part" : Str), .str v)]) :=
    ⟨_, hns.at (fun o q => (gk d dne).trans q), fun f => relO_part (v := .str v) (u := .str v tv) ⟨tv, rfl⟩ f⟩
  have J : Inv X pins σ (upd H1 d (.xd [(("part" : Str), .str v)])) ⟨G', g, dr, tk', os⟩ := I1.laid (t' := tk') old dbig ob
  refine ⟨e, _, fv, ⟨G', g, dr, tk', os⟩, _, .ref C, some d, rfl, J, fun b o q => ?_, ge, hoe, ⟨rfl, rfl⟩, rfl, h1, ?_, rfl, I1.bare, raises_own T.exC T.tyC, q1 d (I1.hok.fresh dbig)⟩
  · by_cases hb : b = e
    · have q' : G'.get? b = some o := q
      rw [hb, ge] at q'
      cases q'
    · exact (gk b hb).symm.trans q
  · rw [upd_ne (Ne.symm dne)]
    exact I1.hok.fresh ebig
end
end VL

namespace VL
open PySem PySem.Spec
open PyProof.Rows L2
open Evl (Ex sz_of)
/-! ### defs that raise -/
section
variable {P : Program} {w : World} {K : PySem.W.Frag} {mg : Str → Option Value} {base : Heap} {cl : Nat → Addr}
/-- the promise of a def that may raise; how its arguments bind is told apart -/
structure OkX (P : Program) (w : World) (K : PySem.W.Frag) (mg : Str → Option Value) (base : Heap) (k : Nat) (f : Addr) (fd : FuncData) (ps : List Str) (sp : Sp) : Prop where
  ok : FnOk P w K mg base (L2.CX P w) k f fd ps sp
theorem okx {x qual : Str} {st : Stmt} {f : Addr} {fd : FuncData} {Ns ps : List Str} {k np : Nat} {m : MS} (Fu : Fun K x qual st f fd) (S : FnScope Ns ps (defScope st)) (hp : ps.length = np) (hN : np ≤ Ns.length)
    (hbody : ∀ (cdv : Value) (A : Around) (outer : List Env) (s : Shared) (H : Hp) (E : XK), Room k (A.deeper (envOfC qual (defScope st) s.heap.objs.size f cdv)) →
      ∃ t, PSs (cxOf (L2.CX P w) P w K mg base Ns qual (defScope st) f cdv A outer s H E) (defBody st) t ∧ SemS ⟨K, cl, w⟩ E t m) : FnOk P w K mg base (L2.CX P w) (k + 1) f fd ps (spF ⟨K, cl, w⟩ (mFn np Ns.length m) np) := by
  refine Fu.okX S (fun vs H Q E h => ?_) (fun cdv A outer s H vs Q E hr h => ?_)
  · exact h.1.trans hp.symm
  · obtain ⟨hv, F, os, α, S0, h⟩ := h
    obtain ⟨t, ht, hm⟩ := hbody cdv A outer s H E hr
    refine ⟨t, ht, ?_⟩
    have e : L2.start Ns vs = vs.map some ++ List.replicate (Ns.length - np) none := by
      unfold L2.start
      rw [hv]
    rw [e]
    exact body_run (Q := Q) hm S0 hv (np := np) (N := Ns.length) h
end
section
variable {G : Cn} {E : XK} {F F1 H H1 : Hp} {σ : L2.St} {ρ ρ1 : Rho} {α α1 : Al} {ta : TA} {ma : MA}
def sRaise (c : Nat) (ms : MA) : MS := fun _ ρ => bnd (ms ρ) fun ais ρ1 => match dsOnly ais with
  | some [.str v] => if v.length ≤ 1000 then some (.ex c (some [("part", .str v)]), ρ1) else none
  | _ => none
theorem semS_raise {c : Nat} (ha : SemA G E ta ma) : SemS G E (fun _ σ H => tMkBad (G.cls c) ta σ H fun cls d H' => E cls d H') (sRaise c ma) := ⟨fun {F H σ ρ α D pins} S h =>
  ha.run S (PostA.to h fun xs ρ1 vs F1 H1 α1 S1 r1 T1 N1 h1 => by
    split at h1
    · rename_i v e
      split at h1
      · rename_i hv
        have q := dsOnly_r r1 e
        obtain ⟨u, w, rfl, ru, rw'⟩ := q.of_cons
        obtain rfl := rw'.of_nil
        have eu : u = .str v := by unfold Rep at ru; exact ru
        subst eu
        refine ⟨v, rfl, hv, fun d hd => ?_⟩
        have T : Stp (Own α) F H F1 (upd H1 d (.xd [(("part" : Str), .str v)])) := T1.trans (Ste.putStp hd) N1
        refine h1 F1 _ d _ T upd_same ?_
        unfold RepsF
        exact ⟨.str v, [], rfl, Rep.ofStr, RepsF.nil⟩
      · exact h1.elim
    · exact h1.elim)⟩
end
theorem ps_raiseBad {X : Cx} {C fI : Addr} {fd : FuncData} {a : Expr} {ta : TA} {x : Str} {p pos pos2 : Pos} {k : Nat} {W : WX} (hc : X.calm = true) (tk : Takes X W) (T : VX.BadTxt X.prog X.K X.mg C fI fd)
    (hbind : ∀ (s : Shared) (a : Addr) (u : Value), X.K.In s.heap → BindsTo s fd ⟨[.ref a, u], []⟩ [("self", .ref a), ("part", u)]) (hr : Room k X.A) (hm : X.mg x = some (.ref C)) (ha : PA X [a] ta) (hg : Gl X x := by rfl) (hdb : (x == ("__debug__" : Str)) = false := by decide)
    (he : starEach (a :: []) X.env = (false, eval a X.env) :: starEach [] X.env := by rfl) (hpl : (backTo pos (starEach [] X.env)).any (·.1) = false := by rfl) :
    PS X (.Raise (some (.Call (.Name x p) [a] [] pos)) none pos2) (fun _ σ H => tMkBad C ta σ H fun cls d H' => W cls d σ H') := ps_raise hc tk (pmk_bad T hbind hr hm ha hg hdb he hpl)
end VL
namespace VL
/-- the built-in kinds: none is of an own class -/
def kitO : List (String × Bool) := [("NoneType", false), ("bool", false), ("int", false), ("str", false), ("tuple", false), ("list", false), ("dict", false)]
end VL

namespace VL
open PySem PySem.Spec
open PyProof.Rows L2
open Evl (Ex sz_of)
/-! ### a try whose clause tells the part -/
structure ExcK (K : PySem.W.Frag) (D : Addr) : Prop where
  cl : (PySem.W.clsIn K D).isSome = true
  ga : PySem.W.findIn K (.ref D) "__getattribute__" = some (some (.builtin "BaseException.__getattribute__"))
  gt : PySem.W.findIn K (.ref D) "__getattr__" = some none
  sb : PySem.W.subIn K (.ref D) (.type "BaseException") = some true
  ca : PySem.W.findIn K (.ref D) "__class__" = some (some (.builtin "object.__class__"))
  sp : PySem.W.specialIn K (.builtin "object.__class__") "__get__" = some (some (.builtin "getset_descriptor.__get__"))
  tk : PySem.W.takesIn K (.builtin "object.__class__") = some true
  mo : PySem.W.mroIn K D (.type "object") = some true
  hdct : PySem.W.hasDictIn K D = true
  np : PySem.W.findIn K (.ref D) "part" = some none
section
variable {X : Cx} {a D : Addr} {oe : Obj} {cls : Value} {d : Option Addr} {pn : List (Addr × Obj)}
theorem inst_at {pins : List (Addr × Obj)} {σ : L2.St} {H : Hp} {s : Shared} {dd : Addr} {fs : List (Str × V)} (I : Inv (X.suite a ((a, oe) :: pn)) pins σ H s) (hz : Zc (.ref D) (some dd) oe) (hf : ∃ vs, oe.data = .fields vs) (hx : H dd = some (.xd fs)) :
    ∃ mA od, s.heap.Ns1 dd mA ∧ (∀ f, RelO (fs.lookup f) (mA f)) ∧ (∀ name, PySem.W.lookIn name od = some (mA name)) ∧ PySem.W.InstAt s.heap a oe D (some od) := by
  obtain ⟨ha, _⟩ := I.pin (a, oe) (List.mem_append_left _ List.mem_cons_self)
  obtain ⟨vs, hd⟩ := hf
  have hx' : ObjOk X.prog X.w H s.heap dd (.xd fs) := I.hok dd _ hx
  obtain ⟨mA, hns, hr⟩ := hx'
  obtain ⟨od, at0, lk⟩ := lookIn_ns hns
  exact ⟨mA, od, hns, hr, lk, ha, hz.1, by unfold PySem.W.notCls; rw [hd] <;> rfl, by rw [hz.2]; exact at0⟩
def rIsX (K : PySem.W.Frag) (D a : Addr) (cls : Value) (d : Option Addr) : List V → Hp → VK → Prop := fun xs H Q => ∃ (c : V) (cv : Value) (b : Bool) (dd : Addr) (fs : List (Str × V)),
  xs = [.ref a, c] ∧ cls = .ref D ∧ d = some dd ∧ H dd = some (.xd fs) ∧ (∀ u, RelV c u → u = cv) ∧ PySem.W.kitOne K (.ref D) cv = some b ∧ Q (.bl b) H
theorem call_isX (C : ExcK X.K D) (hz : Zc cls d oe) (hf : ∃ vs, oe.data = .fields vs) : CallR (X.suite a ((a, oe) :: pn)) (.builtin "isinstance") (rIsX X.K D a cls d) := by
  intro pns s σ H xs us Q inv r got
  obtain ⟨c, cv, b, dd, fs, rfl, rfl, rfl, hx, hcv, e, q⟩ := got
  obtain ⟨u, u', rfl, ru, ru'⟩ := vals2 r
  cases ru
  have ec := hcv _ ru'
  subst ec
  obtain ⟨mA, od, hns, hr, hl, J⟩ := inst_at inv hz hf hx
  exact PySem.W.kia_one (PySem.W.kitx_exc C.cl C.ga C.gt C.sb C.ca C.sp C.tk C.mo) inv.kIn J e (fun z => nomatch z) fun tk => ⟨.bl b, H, inv.kept (t' := tk) fun _ _ z => z, rfl, q⟩
def tPartX (D a : Addr) (cls : Value) (d : Option Addr) (te : TE) : TE := fun σ H Q => te σ H fun x H1 => x = .ref a ∧ cls = .ref D ∧ ∃ (dd : Addr) (v : V), d = some dd ∧ H1 dd = some (.xd [(("part" : Str), v)]) ∧ Q v H1
theorem pe_partX {e : Expr} {te : TE} {pos : Pos} (C : ExcK X.K D) (hz : Zc cls d oe) (hf : ∃ vs, oe.data = .fields vs) (he : PE (X.suite a ((a, oe) :: pn)) e te) (hb : attributeBase e "part" X.env (eval e X.env) = eval e X.env := by rfl) :
    PE (X.suite a ((a, oe) :: pn)) (.Attribute e "part" pos) (tPartX D a cls d te) := by
  constructor
  intro pns s σ H Q inv got
  have ev := he.run pns s σ H _ inv got
  refine attr_of hb (thn ev fun u s1 hh => ?_)
  obtain ⟨x, H1, I1, rx, ex, ec, dd, v, ed, ea, q⟩ := hh
  subst ex ec ed
  have eu : u = Value.ref a := rx
  subst eu
  obtain ⟨mA, od, hns, hr, hl, J⟩ := inst_at I1 hz hf ea
  obtain ⟨u, hu, ru⟩ := RelO.some_of (v := v) (o := mA "part") (by rw [← lkp (v := v)]; exact hr "part")
  exact HandSPX.exc_get I1.kIn J C.ga C.gt C.sb (PySem.W.findObj_own C.hdct C.np rfl (by rw [hl, hu])) (handed_of ru) ⟨v, H1, I1.tok _, ru, q⟩
end
/-- return error.part if isinstance(error, ..) and isinstance(error, ..) else s -/
def tSuite (K : PySem.W.Frag) (D : Addr) (i : Nat) (c1 c2 : V) (z : Str) (a : Addr) (cls : Value) (d : Option Addr) : TS :=
  tRet (tIf (tAnd (tB (tCB (rIsX K D a cls d) (tCons (tVar i) (tCons (tC c1) tNil)))) (tB (tCB (rIsX K D a cls d) (tCons (tVar i) (tCons (tC c2) tNil))))) (tPartX D a cls d (tVar i)) (tC (.str z)))
def tTry (K : PySem.W.Frag) (D : Addr) (i n : Nat) (c1 c2 : V) (z : Str) (mk : XK → TE) : TS := fun Dn σ H =>
  tDrop (mk fun cls d H' => ∀ σ' : L2.St, σ'.length = n → wAs K (.ref D) i (tSuite K D i c1 c2 z) (fun _ _ _ _ => False) Dn cls d σ' H') Dn σ H
def allVal (ρ : Rho) : Bool := ρ.all fun o => match o with | none => true | some (.val _) => true | _ => false
def sTry (c : Nat) (mk : M) : MS := fun _ ρ => match mk ρ with
  | some (.ok _, ρ1) => some (.ok .nx, ρ1)
  | some (.ex c' (some [(f, .str v)]), _) => if c' = c ∧ f = "part" ∧ allVal ρ = true then some (.ok (.ret (.val (.str v))), ρ) else none
  | _ => none
section
variable {G : Cn} {E : XK} {F F1 H H1 : Hp} {σ : L2.St} {ρ ρ1 : Rho} {α α1 : Al}
theorem allVal_own (h : allVal ρ = true) (S : Ste G F H σ ρ α) : ∀ a, ¬ Own α a := fun a ⟨i, ha⟩ => by
  cases e : ρ[i]? with
  | none => rw [S.off i fun o z => by rw [e] at z; cases z] at ha; cases ha
  | some x =>
    cases x with
    | none => rw [S.off i fun o z => by rw [e] at z; cases z] at ha; cases ha
    | some o =>
      obtain ⟨v, _, r⟩ := S.slot i o e
      have hm := List.all_eq_true.mp h _ (List.mem_of_getElem? e)
      cases o with
      | val d => rw [r.1] at ha; cases ha
      | _ => cases hm
theorem semS_try {c i n : Nat} {c1 c2 : V} {u1 u2 : Value} {z : Str} {mk : M} {tmk : XK → TE} (hi : i < n) (hm : ∀ E, Sem G E (tmk E) mk) (hx : PySem.W.exmOne G.K (.ref (G.cls c)) (.ref (G.cls c)) = some true)
    (h1 : ∀ u, RelV c1 u → u = u1) (h2 : ∀ u, RelV c2 u → u = u2) (k1 : PySem.W.kitOne G.K (.ref (G.cls c)) u1 = some true) (k2 : PySem.W.kitOne G.K (.ref (G.cls c)) u2 = some true) :
    SemS G E (tTry G.K (G.cls c) i n c1 c2 z tmk) (sTry c mk) := ⟨fun {F H σ ρ α D pins} S h => by
  refine (hm _).run S ?_
  unfold sTry at h
  split at h
  · rename_i o ρ1 e
    rw [e]
    exact fun v F' H' α' β S' R' T' M' N' => h σ F' H' α' S' T' (fun a z => N' a (.inl z)) .refl
  · rename_i c' f v ρ1 e
    rw [e]
    split at h
    · rename_i hc
      obtain ⟨rfl, rfl, hv⟩ := hc
      have no := allVal_own hv S
      intro F' H' dd fvs T' hd hr σ' hl
      have hr' : ∃ (w : V) (r : List (Str × V)), fvs = (("part" : Str), w) :: r ∧ Rep G F' w (.str v) ∧ RepsF G F' r [] := by unfold RepsF at hr; exact hr
      obtain ⟨w, r, rfl, rw', rr⟩ := hr'
      have er : r = [] := by unfold RepsF at rr; exact rr
      have ew : w = .str v := by unfold Rep at rw'; exact rw'
      subst er ew
      refine ⟨true, hx, fun _ a0 ha0 => ?_, fun q => nomatch q⟩
      have hs : (σ'.set i (some (V.ref a0)))[i]? = some (some (V.ref a0)) := List.getElem?_set_self (by omega)
      refine ⟨_, hs, c1, u1, true, dd, _, rfl, rfl, rfl, hd, h1, k1, true, rfl, iteT ⟨_, hs, c2, u2, true, dd, _, rfl, rfl, rfl, hd, h2, k2, true, rfl, iteT ⟨_, hs, rfl, rfl, dd, _, rfl, hd, ?_⟩⟩⟩
      have eH : Kpt F H H' := fun b o e => T'.keep b o e (no b)
      exact h (.str v) σ F H' α [] (S.grow (Ex.refl F) eH (fun _ _ z => .inl z) (S.ex.kpt eH)) ⟨rfl, Rep.ofStr⟩ ⟨Ex.refl F, fun b o e _ => eH b o e, fun b o e => .inl e⟩ (fun _ z => nomatch z) (fun a z => z.elim .inl fun z => nomatch z) .refl
    · exact h.elim
  · exact h.elim⟩
end
end VL
namespace VL
open PySem PySem.Spec
open PyProof.Rows L2
open Evl (Ex sz_of)
theorem passLen {X : Cx} {W : WX} (tk : Takes X W) : Passes (L2.CX X.prog X.w) X (fun cls d H' => ∀ σ' : L2.St, σ'.length = X.N.length → W cls d σ' H') :=
  fun pins σ H s e s' I c => tk e s' (XE.of_call I (fun cls d H' h => h σ I.len) c)
end VL

namespace VL
open PySem PySem.Spec
open PyProof.Rows L2
open Evl (Ex sz_of)
/-! ### a, b = x, y -/
def sPar (i j : Nat) (a : MA) : MS := fun pins ρ => bnd (a ρ) fun ais ρ1 => match dsOnly ais with
  | some [x, y] => (setV pins i (.val x) ρ1).bind fun ρ2 => (setV pins j (.val y) ρ2).map fun ρ3 => (.ok .nx, ρ3)
  | _ => none
section
variable {G : Cn} {E : XK} {F F1 H H1 : Hp} {σ : L2.St} {ρ ρ1 : Rho} {α α1 : Al}
theorem Ste.setD {i : Nat} {d : D} {v : V} (S : Ste G F H σ ρ α) (r : Rep G F v d) (hi : i < ρ.length) : Ste G F H (σ.set i (some v)) (ρ.set i (some (.val d))) (Al.set α i []) :=
  S.store (o := .val d) (β := []) ⟨rfl, r⟩ (fun _ _ a ha => nomatch ha) hi
theorem semS_par {i j : Nat} {ta : TA} {ma : MA} (ha : SemA G E ta ma) : SemS G E (tPar i j ta) (sPar i j ma) := ⟨fun {F H σ ρ α D pins} S h =>
  ha.run S (PostA.to h fun xs ρ1 vs F1 H1 α1 S1 r1 T1 N1 h1 => by
    split at h1
    · rename_i x y e
      have q := dsOnly_r r1 e
      obtain ⟨v, r, rfl, rx, q⟩ := q.of_cons
      obtain ⟨u, r, rfl, ry, q⟩ := q.of_cons
      obtain rfl := q.of_nil
      cases e1 : setV pins i (.val x) ρ1 with
      | none => rw [e1] at h1; exact h1.elim
      | some ρ2 =>
        rw [e1] at h1
        try dsimp only [Option.bind] at h1
        cases e2 : setV pins j (.val y) ρ2 with
        | none => rw [e2] at h1; exact h1.elim
        | some ρ3 =>
          rw [e2] at h1
          obtain ⟨n1, l1, rfl⟩ := setV_some e1
          obtain ⟨n2, l2, rfl⟩ := setV_some e2
          refine ⟨v, u, rfl, ?_⟩
          refine h1 _ F1 H1 _ ((S1.setD rx l1).setD ry l2) T1 (fun a z => ?_) ((Pin.set n1).trans (Pin.set n2))
          rcases Al.own_set z with z | z
          · rcases Al.own_set z with z | z
            · exact N1 a z
            · cases z
          · cases z
    · exact h1.elim)⟩
end
end VL
namespace VL
open PySem PySem.Spec
open PyProof.Rows L2
open Evl (Ex sz_of)
/-- the law's def asked with the script -/
theorem script_in {K : PySem.W.Frag} {cl : Nat → Addr} {H : Hp} {Q : VK} {E : XK} {fn : Fn} {a : Addr} {ns : List Int} (e : fn [.val (.scr ns)] = some (.ok (.val (.bl true)), [.val (.scr ns)])) (hS : SqL K H a (ns.map V.int)) (kQ : ∀ H', Q (.bl true) H') :
    spF ⟨K, cl, w⟩ fn 1 [.ref a] H Q E := by
  refine ⟨rfl, fun b => if b = a then H b else none, [.val (.scr ns)], fun _ => [], ⟨fun b o h => ?_, rfl, fun i o h => ?_, fun _ _ => rfl, fun _ _ _ _ h => nomatch h⟩, ?_⟩
  · have h' : (if b = a then H b else none) = some o := h
    split at h'
    · exact .inl h'
    · cases h'
  · cases i with
    | zero =>
      have : O.val (.scr ns) = o := by simpa using h
      subst this
      refine ⟨.ref a, rfl, rfl, ?_⟩
      unfold Rep
      refine ⟨a, rfl, ?_⟩
      rcases hS with h1 | h1
      · rcases h1 with h1 | h1
        · exact .inl (.inl (by show (if a = a then H a else none) = _; rw [if_pos rfl]; exact h1))
        · obtain ⟨o, h1⟩ := h1
          exact .inl (.inr ⟨o, by show (if a = a then H a else none) = _; rw [if_pos rfl]; exact h1⟩)
      · exact .inr h1
    | succ i => simp at h
  · rw [e]
    exact fun v F' H' α' β S r T M N => by
      obtain ⟨_, r⟩ := r
      have : v = .bl true := by unfold Rep at r; exact r
      subst this
      exact kQ H'
end VL

namespace VL
open PySem PySem.Spec
open PyProof.Rows L2
open Evl (Ex sz_of)

/-! ### zip of two sources, walked: by the library's GoesN.zip2 -/
/-- the zip's own cells, from N on -/
def zCells (N : Addr) : List Addr := [N + 4, N + 2, N + 3, N, N + 1]
def zAt (S S' : Src) (n : Nat) (N : Addr) (i : Nat) (h : Heap) : Prop :=
  (IsZip h (N + 4) (N + 2) (N + 3) .none ∧ IsTupOf2 h (N + 2) (.ref N) (.ref (N + 1)) ∧ ∃ a b, IsTupOf2 h (N + 3) a b) ∧ (S.ci N i h ∧ S'.ci (N + 1) i h) ∧ i ≤ n
theorem zAt.move {S S' : Src} {n i : Nat} {N : Addr} {h h' : Heap} (z : zAt S S' n N i h) (k : ∀ b ∈ zCells N, ∀ o, h.get? b = some o → h'.get? b = some o) : zAt S S' n N i h' := by
  obtain ⟨⟨z1, z2, a, b, z3⟩, ⟨z4, z5⟩, z6⟩ := z
  have m : ∀ c, c ∈ zCells N → ∀ o, h.get? c = some o → h'.get? c = some o := k
  exact ⟨⟨m _ (by simp [zCells]) _ z1, m _ (by simp [zCells]) _ z2, a, b, m _ (by simp [zCells]) _ z3⟩, ⟨S.mov h h' _ i z4 (m _ (by simp [zCells])), S'.mov h h' _ i z5 (m _ (by simp [zCells]))⟩, z6⟩
theorem zAt.lives {S S' : Src} {n i : Nat} {N : Addr} {h : Heap} (z : zAt S S' n N i h) : ∀ b ∈ zCells N, ∃ o, h.get? b = some o ∧ ∀ v, o.data ≠ .cell v := by
  obtain ⟨⟨z1, z2, a, b, z3⟩, ⟨z4, z5⟩, _⟩ := z
  intro c hc
  simp only [zCells, List.mem_cons, List.not_mem_nil, or_false] at hc
  rcases hc with q | q | q | q | q <;> subst q
  · exact ⟨_, z1, fun _ x => nomatch x⟩
  · exact ⟨_, z2, fun _ x => nomatch x⟩
  · exact ⟨_, z3, fun _ x => nomatch x⟩
  · exact S.liv _ _ _ z4
  · exact S'.liv _ _ _ z5
section
variable {X : Cx} {elts : List Expr} {kk : Nat} {tpos : Pos} {S S' : Src} {u u' : Value} {xs ys : List V} {Gd : Hp → Prop} {N : Addr}
/-- what the library tells of such a walk, in this heap -/
theorem zWalk {pins : List (Addr × Obj)} {σ : L2.St} {H : Hp} {s : Shared} (f : SrcIn X S u xs Gd) (f' : SrcIn X S' u' ys Gd) (lt : ∀ b ∈ S.ex, b < N) (lt' : ∀ b ∈ S'.ex, b < N) (hc : X.calm = true) (I : Inv X pins σ H s) (g : Gd H) :
    ∃ c c' : Heap → Prop, c s.heap ∧ c' s.heap ∧ GoesN X.prog X.w X.A (.Tuple elts kk tpos) (N + 4) ((N + 4) :: (N + 2) :: (N + 3) :: ((N :: S.ex) ++ ((N + 1) :: S'.ex))) [N + 4, N + 3, N, N + 1] (min xs.length ys.length)
      (fun i h₀ v h => ∃ T x y, v = .ref T ∧ h₀.objs.size ≤ T ∧ (∃ d, xs[i]? = some d ∧ RelV d x) ∧ (∃ d, ys[i]? = some d ∧ RelV d y) ∧ h.IsTuple T #[x, y])
      (fun i h => IsZip h (N + 4) (N + 2) (N + 3) .none ∧ IsTupOf2 h (N + 2) (.ref N) (.ref (N + 1)) ∧ (∃ a b, IsTupOf2 h (N + 3) a b) ∧ (S.ci N i h ∧ c h) ∧ (S'.ci (N + 1) i h ∧ c' h)) := by
  obtain ⟨c, hp, _, _, dr⟩ := f pins σ H s I g
  obtain ⟨c', hp', _, _, dr'⟩ := f' pins σ H s I g
  have hd : X.A.in1.handled = none := I.ok.hd hc
  have n1 : N ∉ S.ex := fun z => absurd (lt N z) (Nat.lt_irrefl _)
  have n2 : N + 1 ∉ S'.ex := fun z => absurd (lt' _ z) (Nat.not_lt.mpr (Nat.le_succ N))
  exact ⟨c, c', hp, hp', GoesN.zip2 (zip_sep2 lt lt') (dr X.A.in1 N hd n1) (dr' X.A.in1 (N + 1) hd n2)⟩
end
theorem turn_zipV {P : Program} {w : World} {K : PySem.W.Frag} {elts : List Expr} {kk : Nat} {tpos : Pos} {S S' : Src} {u u' : Value} {xs ys : List V} {Gd : Hp → Prop} {N : Addr}
    (f : ∀ X : Cx, X.K = K → SrcIn X S u xs Gd) (f' : ∀ X : Cx, X.K = K → SrcIn X S' u' ys Gd) (lt : ∀ b ∈ S.ex, b < N) (lt' : ∀ b ∈ S'.ex, b < N) :
    Turn P w K (.Tuple elts kk tpos) (ItP xs ys Gd) (zCells N) (N + 4) (zAt S S' (min xs.length ys.length) N) where
  mem := by simp [zCells]
  obj := fun i h t => t.lives
  keep := fun i h h' t k => t.move k
  self := fun A i s Q E t q => wpAny_pyIter_zip t.1.1 q
  item := by
    intro X e1 e2 e3 hc i pins s σ H E I ok t go
    subst e1 e2 e3
    obtain ⟨c, c', hp, hp', W⟩ := zWalk (elts := elts) (kk := kk) (tpos := tpos) (f X rfl) (f' X rfl) lt lt' hc I go.1
    have lv := t.lives
    obtain ⟨⟨z1, z2, z3⟩, ⟨z4, z5⟩, z6⟩ := t
    have hi : i < min xs.length ys.length := by have := go.2; omega
    refine W.goes i s _ E hi ⟨z1, z2, z3, ⟨z4, hp⟩, z5, hp'⟩ fun v h' tk y st kp _ => ?_
    obtain ⟨T, a, b, ev, hT, ⟨x, hx, rx⟩, ⟨y, hy, ry⟩, tp⟩ := y
    subst ev
    obtain ⟨y1, y2, y3, ⟨y4, _⟩, y5, _⟩ := st
    have ob : ObjOk X.prog X.w (upd H T (.tup [x, y])) h' T (.tup [x, y]) := ⟨by rw [sizeLine_eq]; show 2 ≤ 16777216; decide, [a, b], .cons rx (.cons ry .nil), tp⟩
    refine ⟨.ref T, _, I.turnedNew (t' := tk) (ch := zCells N) (fun b o nb e => kp b o (fun z => nb ?_) e) ok hT ob, rfl, ⟨T, x, y, rfl, I.hok.fresh hT, rfl, hx, hy⟩, ⟨⟨y1, y2, y3⟩, ⟨y4, y5⟩, hi⟩, fun b hb => ?_⟩
    · simp only [zCells, List.mem_cons, List.not_mem_nil, or_false] at z ⊢
      rcases z with z | z | z | z <;> simp [z]
    · obtain ⟨o, ho, _⟩ := lv b hb
      have ne : b ≠ T := Nat.ne_of_lt (Nat.lt_of_lt_of_le (Heap.lt_size ho) hT)
      rw [upd_ne ne]
      exact (ok b hb).1
  done := by
    intro X e1 e2 e3 hc i pins s σ H E I ok t stp
    subst e1 e2 e3
    obtain ⟨c, c', hp, hp', W⟩ := zWalk (elts := elts) (kk := kk) (tpos := tpos) (f X rfl) (f' X rfl) lt lt' hc I stp.1
    obtain ⟨⟨z1, z2, z3⟩, ⟨z4, z5⟩, z6⟩ := t
    have hi : i = min xs.length ys.length := by have := stp.2; omega
    rw [hi] at z4 z5
    refine W.stops s _ E ⟨z1, z2, z3, ⟨z4, hp⟩, z5, hp'⟩ fun h' tk kp _ => ?_
    refine I.turnedL (t' := tk) (ch := zCells N) (fun b o nb e => kp b o (fun z => nb ?_) e) ok
    simp only [zCells, List.mem_cons, List.not_mem_nil, or_false] at z ⊢
    rcases z with z | z | z | z <;> simp [z]
theorem pi_zipV {X : Cx} {a b : Expr} {ta : TA} {p pos tpos : Pos} {elts : List Expr} {kk : Nat} (hg : Gl X "zip") (hm : X.mg "zip" = none) (ha : PA X [a, b] ta)
    (h1 : starEach [a, b] X.env = (false, eval a X.env) :: starEach [b] X.env := by rfl) (h2 : (backTo pos (starEach [b] X.env)).any (·.1) = false := by rfl) :
    PI X (.Tuple elts kk tpos) (.Call (.Name "zip" p) [a, b] [] pos) (iZipV X.K ta) where
  run := fun pins s σ H R I h => by
    have args := ha.run pos pins s σ H _ I h
    refine Call_ (ld_blt I hg hm boot_zip ?_)
    refine callWith_type1 (thn args fun us s1 got => ?_) h1 h2
    obtain ⟨vs, H1, I1, rel, v, v', xs, ys, Gd, ev, k1, k2, g, q⟩ := got
    subst ev
    obtain ⟨c, d, eu, rc, rd⟩ := vals2 rel
    subst eu
    obtain ⟨S, f⟩ := k1.src rc
    obtain ⟨S', f'⟩ := k2.src rd
    obtain ⟨hc, p1, B, lt, _⟩ := f X rfl pins σ H1 s1 I1 g
    obtain ⟨hc', p2, B', lt', _⟩ := f' X rfl pins σ H1 s1 I1 g
    refine zip_begins2 B B' p1 p2 fun h' z1 z2 z3 i1 i2 sz kp => wpAny_pyIter_zip z1 ?_
    refine ⟨_, zCells s1.heap.objs.size, zAt S S' (min xs.length ys.length) s1.heap.objs.size, _, H1, rfl, I1.kept (t' := s1.toks) kp, turn_zipV f f' lt lt', ⟨⟨z1, z2, _, _, z3⟩, ⟨S.ini _ _ i1, S'.ini _ _ i2⟩, Nat.zero_le _⟩, fun b hb => ?_, q⟩
    have hb' : s1.heap.objs.size ≤ b := by
      simp only [zCells, List.mem_cons, List.not_mem_nil, or_false] at hb
      rcases hb with z | z | z | z | z <;> rw [z]
      · exact Nat.le_add_right _ 4
      · exact Nat.le_add_right _ 2
      · exact Nat.le_add_right _ 3
      · exact Nat.le_refl _
      · exact Nat.le_add_right _ 1
    exact (I1.fpOk hb' (I1.hok.fresh hb'))
end VL

namespace VL
open PySem PySem.Spec
open PyProof.Rows L2
open Evl (Ex sz_of)

/-! ### one source, walked by itself: by the library's Goes -/
/-- items of a source that stands while Gd holds -/
def ItS (xs : List V) (Gd : Hp → Prop) : It := ⟨fun i H => Gd H ∧ i < xs.length, fun i H v H' => H' = H ∧ xs[i]? = some v, fun i H => Gd H ∧ xs.length ≤ i⟩
/-- what a for over the source does in this heap -/
def WalkH (P : Program) (w : World) (S : Src) (v : Value) (xs : List V) (h : Heap) : Prop :=
  ∃ c : Heap → Prop, c h ∧ Begins v S.o c ∧ (∀ b ∈ S.ex, b < h.objs.size) ∧ ∀ (A : Around) (tg : Expr) (it : Addr), A.handled = none → it ∉ S.ex →
    Goes P w A tg it (it :: S.ex) [it] xs.length (fun i u _ => ∃ x, xs[i]? = some x ∧ RelV x u) (fun i h => S.ci it i h ∧ c h)
theorem Goes.len {P : Program} {w : World} {A : Around} {tg : Expr} {it : Addr} {fp wr : List Addr} {n m : Nat} {Y : Nat → Value → Heap → Prop} {St : Nat → Heap → Prop} (W : Goes P w A tg it fp wr n Y St) (e : n = m) : Goes P w A tg it fp wr m Y St := e ▸ W
theorem walkH_tup {P : Program} {w : World} {a : Addr} {xs : List V} {its : List Value} {h : Heap} (r : Vals xs its) (e : h.IsTuple a its.toArray) : WalkH P w (srcTup a) (.ref a) xs h := by
  refine ⟨fun h => h.IsTuple a its.toArray, e, begins_tuple a _, fun b hb => ?_, fun A tg it hh ne => ?_⟩
  · obtain ⟨o, ho, _⟩ := e
    rw [List.mem_singleton.mp hb]
    exact Heap.lt_size ho
  · have ai : a ≠ it := fun z => ne (z ▸ List.mem_singleton.mpr rfl)
    refine VL.Goes.len (PySem.Goes.mono (PySem.Goes.tuple hh it a ai its.toArray) fun i u _ _ q => ?_) (by rw [r.length]; rfl)
    exact Vals.get1 r (by rw [← q]; exact (List.getElem?_toArray ..).symm)
theorem walkH_lst {P : Program} {w : World} {a : Addr} {xs : List V} {its : List Value} {h : Heap} (r : Vals xs its) (e : h.IsList a its.toArray) : WalkH P w (srcLst a) (.ref a) xs h := by
  refine ⟨fun h => h.IsList a its.toArray, e, begins_list a _, fun b hb => ?_, fun A tg it hh ne => ?_⟩
  · obtain ⟨o, ho, _⟩ := e
    rw [List.mem_singleton.mp hb]
    exact Heap.lt_size ho
  · have ai : a ≠ it := fun z => ne (z ▸ List.mem_singleton.mpr rfl)
    refine VL.Goes.len (PySem.Goes.mono (PySem.Goes.list hh it a ai its.toArray) fun i u _ _ q => ?_) (by rw [r.length]; rfl)
    exact Vals.get1 r (by rw [← q]; exact (List.getElem?_toArray ..).symm)
theorem walkH_str {P : Program} {w : World} {x : Str} {t : Tok} {h : Heap} : WalkH P w (srcStr x t) (.str x t) (signs x) h := by
  refine ⟨fun _ => True, trivial, begins_text x t, (fun b hb => nomatch hb), fun A tg it hh ne => ?_⟩
  have W := PySem.Goes.mono (Y' := fun i u _ => ∃ y, (signs x)[i]? = some y ∧ RelV y u) (PySem.Goes.text (prog := P) (w := w) (target := tg) hh it x t) fun i u _ _ ⟨c, t', e, eu⟩ => ⟨.str ⟨#[c]⟩, by
    unfold signs
    rw [List.getElem?_map, show x.cps.toList[i]? = some c by simpa using e]
    rfl, by rw [eu]; exact ⟨t', rfl⟩⟩
  have W' := VL.Goes.len W (m := (signs x).length) (by simp [signs])
  exact ⟨W'.sub, fun i h h' st k => ⟨W'.frame i h h' st.1 k, trivial⟩, fun i s Q E hi st k => W'.goes i s Q E hi st.1 fun v h' tk y st' => k v h' tk y ⟨st', trivial⟩, fun s Q E st k => W'.stops s Q E st.1 k, fun i s Q E st q => W'.self i s Q E st.1 q⟩
theorem SrcV.walk {K : PySem.W.Frag} {v : V} {xs : List V} {Gd : Hp → Prop} {u : Value} (h : SrcV K v xs Gd) (r : RelV v u) :
    ∃ S : Src, (∀ (P : Program) (w : World) (A : Around) (it : Addr) (i : Nat) (s : Shared) (Q : Value → Shared → Prop) (E : Value → Shared → Prop), S.ci it i s.heap → Q (.ref it) s → wpAny (model P w) A (pyIter (.ref it)) Q E s) ∧
      ∀ X : Cx, X.K = K → ∀ (pins : List (Addr × Obj)) (σ : L2.St) (H : Hp) (s : Shared), Inv X pins σ H s → Gd H → WalkH X.prog X.w S u xs s.heap := by
  rcases h with ⟨a, rfl, h⟩ | ⟨a, rfl, h⟩ | ⟨x, rfl, rfl⟩
  · cases r
    refine ⟨srcTup a, fun P w A it i s Q E c q => wpAny_pyIter_tupleiter c q, fun X hK pins σ H s I g => ?_⟩
    subst hK
    obtain ⟨its, rv, p, _⟩ := I.tuple (h H g)
    exact walkH_tup rv p
  · cases r
    refine ⟨srcLst a, fun P w A it i s Q E c q => wpAny_pyIter_listiter c q, fun X hK pins σ H s I g => ?_⟩
    subst hK
    obtain ⟨its, rv, p, _⟩ := I.list (h H g)
    exact walkH_lst rv p.isList
  · obtain ⟨t, rfl⟩ := r
    refine ⟨srcStr x t, fun P w A it i s Q E c q => ?_, fun X hK pins σ H s I g => walkH_str⟩
    have c' : s.heap.IsStrIter it (strIterType x) x t i := c
    unfold strIterType at c'
    split at c'
    · exact wpAny_pyIter_striter_ascii c' q
    · exact wpAny_pyIter_striter_wide c' q
theorem turn_srcV {P : Program} {w : World} {K : PySem.W.Frag} {tg : Expr} {S : Src} {u : Value} {xs : List V} {Gd : Hp → Prop} {N : Addr}
    (sf : ∀ (P : Program) (w : World) (A : Around) (it : Addr) (i : Nat) (s : Shared) (Q : Value → Shared → Prop) (E : Value → Shared → Prop), S.ci it i s.heap → Q (.ref it) s → wpAny (model P w) A (pyIter (.ref it)) Q E s)
    (f : ∀ X : Cx, X.K = K → ∀ (pins : List (Addr × Obj)) (σ : L2.St) (H : Hp) (s : Shared), Inv X pins σ H s → Gd H → WalkH X.prog X.w S u xs s.heap) (lt : N ∉ S.ex) :
    Turn P w K tg (ItS xs Gd) [N] N (fun i h => S.ci N i h ∧ i ≤ xs.length) where
  mem := List.mem_singleton.mpr rfl
  obj := fun i h t b hb => by
    rw [List.mem_singleton.mp hb]
    exact S.liv h N i t.1
  keep := fun i h h' t k => ⟨S.mov h h' N i t.1 (k N (List.mem_singleton.mpr rfl)), t.2⟩
  self := fun A i s Q E t q => sf P w A N i s Q E t.1 q
  item := by
    intro X e1 e2 e3 hc i pins s σ H E I ok t go
    subst e1 e2 e3
    obtain ⟨c, hp, _, _, W⟩ := f X rfl pins σ H s I go.1
    refine (W X.A tg N (I.ok.hd hc) lt).goes i s _ E go.2 ⟨t.1, hp⟩ fun v h' tk y st kp _ => ?_
    obtain ⟨x, hx, rx⟩ := y
    exact ⟨x, H, I.turnedL (t' := tk) (ch := [N]) kp ok, rx, ⟨rfl, hx⟩, ⟨st.1, go.2⟩, fun b hb => (ok b hb).1⟩
  done := by
    intro X e1 e2 e3 hc i pins s σ H E I ok t stp
    subst e1 e2 e3
    obtain ⟨c, hp, _, _, W⟩ := f X rfl pins σ H s I stp.1
    have hi : i = xs.length := Nat.le_antisymm t.2 stp.2
    refine (W X.A tg N (I.ok.hd hc) lt).stops s _ E ⟨hi ▸ t.1, hp⟩ fun h' tk kp _ => I.turnedL (t' := tk) (ch := [N]) kp ok
def iSeqV (K : PySem.W.Frag) (te : TE) : TI := fun σ H R => te σ H fun v H1 => ∃ xs Gd, SrcV K v xs Gd ∧ Gd H1 ∧ R (ItS xs Gd) H1
theorem pi_seqV {X : Cx} {tg e : Expr} {te : TE} (he : PE X e te) : PI X tg e (iSeqV X.K te) where
  run := fun pins s σ H R I h => by
    refine thn (he.run pins s σ H _ I h) fun u s1 got => ?_
    obtain ⟨v, H1, I1, rv, xs, Gd, k, g, q⟩ := got
    obtain ⟨S, sf, f⟩ := k.walk rv
    obtain ⟨c, hp, B, lt, _⟩ := f X rfl pins σ H1 s1 I1 g
    have nx : s1.heap.objs.size ∉ S.ex := fun z => absurd (lt _ z) (Nat.lt_irrefl _)
    refine B.iter _ _ _ _ _ _ hp ?_
    have kp : ∀ b o, s1.heap.get? b = some o → (s1.heap.push S.o).get? b = some o := fun b o e => Heap.get?_push_of_some _ e
    refine ⟨_, [s1.heap.objs.size], _, _, H1, rfl, I1.kept (t' := s1.toks) kp, turn_srcV sf f nx, ⟨S.ini _ _ (Heap.get?_push_size _ B.free), Nat.zero_le _⟩, fun b hb => ?_, q⟩
    rw [List.mem_singleton.mp hb]
    exact I1.fpOk (Nat.le_refl _) (I1.hok.fresh (Nat.le_refl _))
section
variable {G : Cn} {E : XK} {F F1 H H1 : Hp} {σ : L2.St} {ρ ρ1 : Rho} {α α1 : Al}
theorem it_src {vs : List V} {ds : List D} (r : Reps G F1 vs ds) : ItSem G F1 H1 (ItS vs (Lx F1)) ds := fun {F' H'} i e1 e2 _ => by
  have l := r.length
  refine ⟨fun hi => ⟨Lx.pre e1 e2, by omega⟩, fun hi => ⟨Lx.pre e1 e2, by omega⟩, fun x H'' d hd y => ?_⟩
  obtain ⟨e, hx⟩ := y
  subst e
  obtain ⟨v, q1, q2⟩ := r.get hd
  rw [hx] at q1
  cases q1
  exact ⟨F', Ex.refl F', Ex.refl _, fun _ _ z => .inl z, e2, q2.mono e1⟩
/-- what may be walked: lists, tuples, texts, the script -/
def walkD : D → Option (List D)
  | .scr ns => some (ns.map .int)
  | .emp => some []
  | d => seqD d
def iWalk (a : M) : MI := fun ρ => match a ρ with
  | some (.ok o, ρ1) => (walkD o.frz).map fun ds => (ds, ρ1)
  | _ => none
theorem Rep.walk {v : V} {d : D} {ds : List D} (h : Rep G F1 v d) (e : walkD d = some ds) : ∃ xs, SrcV G.K v xs (Lx F1) ∧ Reps G F1 xs ds := by
  cases d with
  | scr ns =>
    cases e
    obtain ⟨a, rfl, k⟩ := rep_scr h
    exact ⟨_, .inr (.inl ⟨a, rfl, k⟩), reps_ints ns⟩
  | emp =>
    cases e
    unfold Rep at h
    obtain ⟨a, rfl, k⟩ := h
    exact ⟨[], .inl ⟨a, rfl, fun _ _ => sqt_none k⟩, .nil⟩
  | _ => exact h.src e
theorem semI_walk {tl : TE} {a : M} (ha : Sem G E tl a) : SemI G (iSeqV G.K tl) (iWalk a) := ⟨fun {F H σ ρ α ds ρ1 R} S e k => by
  unfold iWalk at e
  split at e
  · rename_i o ρ' e1
    cases e2 : walkD o.frz with
    | none => rw [e2] at e; cases e
    | some ds' =>
      rw [e2] at e
      cases e
      refine ha.run S (Post.okEnd e1 fun v F1 H1 α1 S1 r1 T1 N1 => ?_)
      obtain ⟨xs, k1, p1⟩ := r1.walk e2
      exact ⟨xs, _, k1, S1.ex, k _ F1 H1 α1 S1 T1 N1 (it_src p1)⟩
  · cases e⟩
end
end VL

namespace VL
open PySem PySem.Spec
open PyProof.Rows L2
open Evl (Ex sz_of)

/-! ### comprehensions of two clauses -/
def lcIn (vs : List Nat) (p : Pat) (mt me : M) : List D → Rho → List D → Option (List D × Rho)
  | [], ρ, acc => some (acc, ρ)
  | d :: ds, ρ, acc => match bindP [] p d ρ with
    | none => none
    | some ρ1 => (match mt ρ1 with
      | some (.ok b, ρ2) => (match b.frz with
        | .bl true => (match me ρ2 with
          | some (.ok o, ρ3) => if acc.length < 100000 then lcIn vs p mt me ds (wipeR ρ3 vs) (acc ++ [o.frz]) else none
          | _ => none)
        | .bl false => lcIn vs p mt me ds (wipeR ρ2 vs) acc
        | _ => none)
      | _ => none)
def lcOut (vs : List Nat) (p : Pat) (mi : MI) (vs1 : List Nat) (p1 : Pat) (mt me : M) : List D → Rho → List D → Option (List D × Rho)
  | [], ρ, acc => some (acc, ρ)
  | d :: ds, ρ, acc => match bindP [] p d ρ with
    | none => none
    | some ρ1 => (match mi ρ1 with
      | none => none
      | some (es, ρ2) => if clean vs1 ρ2 = true then (match lcIn vs1 p1 mt me es ρ2 acc with
        | none => none
        | some (acc1, ρ3) => lcOut vs p mi vs1 p1 mt me ds (wipeR ρ3 vs) acc1) else none)
def mLc2 (mi : MI) (vs : List Nat) (p : Pat) (mi1 : MI) (vs1 : List Nat) (p1 : Pat) (mt me : M) : M := fun ρ => match mi ρ with
  | some (ds, ρ1) => if clean vs ρ1 = true then (lcOut vs p mi1 vs1 p1 mt me ds ρ1 []).map fun x => (.ok (.lst x.1), x.2) else none
  | none => none
section
variable {G : Cn} {E E1 E2 : XK} {F F1 F2 H H1 H2 : Hp} {σ σ1 : L2.St} {ρ ρ1 : Rho} {α α1 : Al}
/-- what is made stands beside: all that belongs to somebody, and it -/
def Besd (Dl : Addr) (β : Al) : Addr → Prop := fun a => Own β a ∨ a = Dl
theorem Stp.besd {Dl : Addr} {Fa Ha Fb Hb : Hp} (s : Stp (Own α) Fa Ha Fb Hb) : Stp (Besd Dl α) Fa Ha Fb Hb := s.weak fun _ z => .inl z
theorem New.besd {Dl : Addr} {Ha : Hp} (n : New (Own α) Ha (Own α1)) : New (Besd Dl α) Ha (Besd Dl α1) := fun a z => by
  rcases z with z | z
  · exact (n a z).elim (fun y => .inl (.inl y)) .inr
  · exact .inl (.inr z)
theorem New.less {Dl : Addr} {A : Addr → Prop} {Ha : Hp} (n : New A Ha (Besd Dl α)) (o : ∀ a, Own α1 a → Own α a) : New A Ha (Besd Dl α1) := fun a z => by
  rcases z with z | z
  · exact n a (.inl (o a z))
  · exact n a (.inr z)
theorem Pend.less {Dl : Addr} {ds : List D} (q : Pend G F H α Dl ds) (o : ∀ a, Own α1 a → Own α a) : Pend G F H α1 Dl ds := ⟨q.fF, fun z => q.no (o _ z), q.at'⟩
/-- the state, what is made, how far all has gone since F0, H0 -/
structure Mk (G : Cn) (F0 H0 : Hp) (α0 : Al) (Dl : Addr) (acc : List D) (F H : Hp) (σ : L2.St) (ρ : Rho) (α : Al) : Prop where
  ste : Ste G F H σ ρ α
  pend : Pend G F H α Dl acc
  stp : Stp (Besd Dl α0) F0 H0 F H
  new : New (Besd Dl α0) H0 (Besd Dl α)
section
variable {F0 H0 : Hp} {α0 : Al} {Dl : Addr} {acc : List D}
theorem Mk.go (m : Mk G F0 H0 α0 Dl acc F H σ ρ α) (S : Ste G F1 H1 σ1 ρ1 α1) (T : Stp (Own α) F H F1 H1) (N : New (Own α) H (Own α1)) : Mk G F0 H0 α0 Dl acc F1 H1 σ1 ρ1 α1 :=
  ⟨S, m.pend.step T N, m.stp.trans T.besd m.new, New.trans m.stp m.new N.besd⟩
theorem Mk.of (m : Mk G F0 H0 α0 Dl acc F H σ ρ α) (S : Ste G F H σ1 ρ1 α1) (o : ∀ a, Own α1 a → Own α a) : Mk G F0 H0 α0 Dl acc F H σ1 ρ1 α1 :=
  ⟨S, m.pend.less o, m.stp, m.new.less o⟩
theorem Mk.grow (m : Mk G F0 H0 α0 Dl acc F H σ ρ α) (eF : Ex F F1) (eH : Kpt F H H1) (nf : ∀ b o, F1 b = some o → F b = some o ∨ H b = none) (eX : Lx F1 H1) : Mk G F0 H0 α0 Dl acc F1 H1 σ ρ α :=
  m.go (m.ste.grow eF eH nf eX) (Stp.grow eF eH nf) .refl
theorem Mk.wiped (m : Mk G F0 H0 α0 Dl acc F H σ ρ α) (vs : List Nat) : ∃ α2, Mk G F0 H0 α0 Dl acc F H (L2.wipe σ vs) (wipeR ρ vs) α2 := by
  obtain ⟨α2, S, o⟩ := m.ste.wipe vs
  exact ⟨α2, m.of S o⟩
theorem Mk.add {d : D} {v : V} (m : Mk G F0 H0 α0 Dl acc F H σ ρ α) (r : Rep G F v d) : ∃ ws, H Dl = some (.lst ws) ∧ ws.length = acc.length ∧ Mk G F0 H0 α0 Dl (acc ++ [d]) F (upd H Dl (.lst (ws ++ [v]))) σ ρ α := by
  obtain ⟨ws, h1, h2, S, q⟩ := m.ste.grown m.pend r
  refine ⟨ws, h1, h2, S, q, m.stp.trans (A1 := Besd Dl α) ⟨Ex.refl F, fun b u e n => ?_, fun b u e => .inl e⟩ m.new, fun a z => ?_⟩
  · rw [upd_ne fun y => n (.inr y)]
    exact .inl e
  · exact m.new a z
end
variable {wi wi1 : TI} {mi mi1 : MI} {g g1 : TG} {p p1 : Pat} {tt : TT} {mt me : M} {te : TE}
theorem wipe_twice {vs vs1 : List Nat} {σ2 : L2.St} (hv : ∀ j ∈ vs1, j ∈ vs) : L2.wipe (L2.wipe σ2 vs1) vs = L2.wipe σ2 vs :=
  wipe_same (wipe_length σ2 vs1) fun j hj => wipe_out fun z => hj (hv j z)
theorem sem_lc2 {vs vs1 : List Nat} (hi : SemI G wi mi) (hg : GSem G g p) (hi1 : SemI G wi1 mi1) (hg1 : GSem G g1 p1) (ht : SemT G E1 tt mt) (he : Sem G E2 te me) (hp : ∀ j ∈ p.slots, j ∈ vs) (hp1 : ∀ j ∈ p1.slots, j ∈ vs1) (hv : ∀ j ∈ vs1, j ∈ vs) :
    Sem G E (tLc2 wi g tYes wi1 g1 tt te vs vs1) (mLc2 mi vs p mi1 vs1 p1 mt me) := ⟨fun {F H σ ρ α Q} S h => by
  unfold mLc2 at h
  cases e : mi ρ with
  | none => rw [e] at h; exact h.elim
  | some x =>
    obtain ⟨ds, ρ1⟩ := x
    rw [e] at h
    try dsimp only at h
    split at h
    case isFalse => exact h.elim
    case isTrue hcl =>
    cases eL : lcOut vs p mi1 vs1 p1 mt me ds ρ1 [] with
    | none => rw [eL] at h; exact h.elim
    | some y =>
    obtain ⟨accF, ρF⟩ := y
    rw [eL] at h
    refine hi.run S e fun J F1 H1 α1 S1 T1 N1 it => ?_
    intro Dl hD
    have Sw : Ste G F1 (upd H1 Dl (.lst [])) (L2.wipe σ vs) ρ1 α1 := (S1.put hD).wiped fun j hj o q => by
      rw [clean_mem hcl hj] at q
      cases q
    have m0 : Mk G F1 (upd H1 Dl (.lst [])) α1 Dl [] F1 (upd H1 Dl (.lst [])) (L2.wipe σ vs) ρ1 α1 := ⟨Sw, ⟨S1.fresh hD, S1.notown hD, [], upd_same, Reps.nil⟩, .refl, .refl⟩
    have T1' : Stp (Own α) F H F1 (upd H1 Dl (.lst [])) := T1.trans (Ste.putStp hD (A := Own α1)) N1
    refine ⟨fun i m H' => m = ds.length - i ∧ i ≤ ds.length ∧ ∃ F' ρ' α' acc, Mk G F1 (upd H1 Dl (.lst [])) α1 Dl acc F' H' (L2.wipe σ vs) ρ' α' ∧ lcOut vs p mi1 vs1 p1 mt me (ds.drop i) ρ' acc = some (accF, ρF), ⟨ds.length, by simp, Nat.zero_le _, F1, ρ1, α1, [], m0, eL⟩, ?_⟩
    rintro i m H' ⟨rfl, hi', F', ρ', α', acc, mk, eq⟩
    have z1 : Kpz H1 H' := (Kpz.of (Ex.new hD)).trans (mk.stp.kpzA fun a od u e z => z.elim (Sw.nofrz a od u e) fun y => by rw [y, upd_same] at e; cases e)
    obtain ⟨i1, i2, i3⟩ := it i mk.stp.exF mk.ste.ex z1
    by_cases hlt : i < ds.length
    case neg =>
      refine .inl ⟨i2 (by omega), ?_⟩
      rw [List.drop_of_length_le (by omega)] at eq
      cases eq
      obtain ⟨ws, hws, rws⟩ := mk.pend.at'
      have nA : New (Own α) H (Besd Dl α1) := fun a z => z.elim (fun y => N1 a y) fun y => by
        subst y
        by_cases z : Own α a
        · exact .inl z
        · cases e5 : H a with
          | none => exact .inr rfl
          | some u =>
            obtain ⟨u', k⟩ := T1.there e5 z
            rw [k] at hD
            cases hD
      refine h (.ref Dl) F' H' α' [Dl] mk.ste.unwiped ⟨Dl, ws, rfl, rfl, mk.pend.fF, hws, rws⟩ (T1'.trans mk.stp nA) (fun a ha => by
        rw [List.mem_singleton.mp ha]
        exact mk.pend.no) fun a z => ?_
      exact New.trans T1' nA mk.new a (z.elim .inl fun y => .inr (List.mem_singleton.mp y))
    case pos =>
    refine .inr ⟨i1 hlt, fun H2 => ∃ F' ρ' α' acc, Mk G F1 (upd H1 Dl (.lst [])) α1 Dl acc F' H2 (L2.wipe σ vs) ρ' α' ∧ lcOut vs p mi1 vs1 p1 mt me (ds.drop (i + 1)) ρ' acc = some (accF, ρF), fun H2 n2 => ⟨ds.length - (i + 1), by omega, rfl, hlt, n2⟩, fun x H'' y => ?_⟩
    obtain ⟨d, hd⟩ : ∃ d, ds[i]? = some d := ⟨ds[i], by simp [hlt]⟩
    obtain ⟨F'', f1, f2, f3, f4, rx⟩ := i3 x H'' d hd y
    have mk2 := mk.grow f1 (kpt f2) f3 f4
    rw [drop_get hd] at eq
    unfold lcOut at eq
    cases e2 : bindP [] p d ρ' with
    | none => rw [e2] at eq; cases eq
    | some ρ2 =>
    rw [e2] at eq
    try dsimp only at eq
    cases e3 : mi1 ρ2 with
    | none => rw [e3] at eq; cases eq
    | some z =>
    obtain ⟨es, ρ3⟩ := z
    rw [e3] at eq
    try dsimp only at eq
    split at eq
    case isFalse => cases eq
    case isTrue hcl1 =>
    cases e4 : lcIn vs1 p1 mt me es ρ3 acc with
    | none => rw [e4] at eq; cases eq
    | some z =>
    obtain ⟨acc1, ρ4⟩ := z
    rw [e4] at eq
    try dsimp only at eq
    refine hg (pins := []) mk2.ste rx e2 fun σ2 α2 S3 o3 _ J3 => ?_
    have hw : L2.wipe σ2 vs = L2.wipe σ vs := (wipe_same J3.2 fun j hj => J3.1 j fun z => hj (hp j z)).trans (wipe_same (wipe_length σ vs) fun j hj => wipe_out hj)
    have mk3 := mk2.of S3 o3
    refine ⟨hw, ?_⟩
    unfold tYes
    dsimp only
    rw [if_pos rfl]
    refine hi1.run S3 e3 fun J1 F3 H3 α3 S4 T4 N4 it1 => ?_
    have mk4 := (mk3.go S4 T4 N4).of (S4.wiped fun j hj o q => by
      rw [clean_mem hcl1 hj] at q
      cases q) fun _ z => z
    refine ⟨fun j k H5 => k = es.length - j ∧ j ≤ es.length ∧ ∃ F5 ρ5 α5 acc5, (Ex F3 F5 ∧ Kpz H3 H5) ∧ Mk G F1 (upd H1 Dl (.lst [])) α1 Dl acc5 F5 H5 (L2.wipe σ2 vs1) ρ5 α5 ∧ lcIn vs1 p1 mt me (es.drop j) ρ5 acc5 = some (acc1, ρ4), ⟨es.length, by simp, Nat.zero_le _, F3, ρ3, α3, acc, ⟨Ex.refl F3, .refl H3⟩, mk4, e4⟩, ?_⟩
    rintro j k H5 ⟨rfl, hj', F5, ρ5, α5, acc5, ⟨ex5, z5⟩, mk5, eq5⟩
    obtain ⟨j1, j2, j3⟩ := it1 j ex5 mk5.ste.ex z5
    by_cases hl1 : j < es.length
    case neg =>
      refine .inl ⟨j2 (by omega), ?_⟩
      rw [List.drop_of_length_le (by omega)] at eq5
      cases eq5
      obtain ⟨α6, mk6⟩ := mk5.wiped vs
      rw [wipe_twice hv, hw] at mk6
      exact ⟨F5, _, α6, _, mk6, eq⟩
    case pos =>
    refine .inr ⟨j1 hl1, fun H6 => ∃ F5 ρ5 α5 acc5, (Ex F3 F5 ∧ Kpz H3 H6) ∧ Mk G F1 (upd H1 Dl (.lst [])) α1 Dl acc5 F5 H6 (L2.wipe σ2 vs1) ρ5 α5 ∧ lcIn vs1 p1 mt me (es.drop (j + 1)) ρ5 acc5 = some (acc1, ρ4), fun H6 n6 => ⟨es.length - (j + 1), by omega, rfl, hl1, n6⟩, fun x1 H6 y1 => ?_⟩
    obtain ⟨d1, hd1⟩ : ∃ d, es[j]? = some d := ⟨es[j], by simp [hl1]⟩
    obtain ⟨F6, q1, q2, q3, q4, rx1⟩ := j3 x1 H6 d1 hd1 y1
    have mk6 := mk5.grow q1 (kpt q2) q3 q4
    have ex6 := ex5.trans q1
    rw [drop_get hd1] at eq5
    unfold lcIn at eq5
    cases e6 : bindP [] p1 d1 ρ5 with
    | none => rw [e6] at eq5; cases eq5
    | some ρ6 =>
    rw [e6] at eq5
    try dsimp only at eq5
    refine hg1 (pins := []) mk6.ste rx1 e6 fun σ3 α6 S6 o6 _ J6 => ?_
    have hw1 : L2.wipe σ3 vs1 = L2.wipe σ2 vs1 := (wipe_same J6.2 fun j hj => J6.1 j fun z => hj (hp1 j z)).trans (wipe_same (wipe_length σ2 vs1) fun j hj => wipe_out hj)
    have mk7 := mk6.of S6 o6
    refine ⟨hw1, ht.run S6 ?_⟩
    match q5 : mt ρ6, eq5 with
    | none, eq5 => cases eq5
    | some (.ex c f, _), eq5 => cases eq5
    | some (.ok b, ρ7), eq5 =>
      intro v F7 H7 α7 β S7 r7 T7 M7 N7
      obtain ⟨F8, S8, r8, T8, N8⟩ := S7.freeze r7 T7 M7 N7
      have mk8 := mk7.go S8 T8 N8
      try dsimp only at eq5
      split at eq5
      · rename_i eb
        refine ⟨true, frz_bl (H := H) r8 eb, ?_⟩
        rw [if_pos rfl]
        refine he.run S8 ?_
        match q7 : me ρ7, eq5 with
        | none, eq5 => cases eq5
        | some (.ex c f, _), eq5 => cases eq5
        | some (.ok o, ρ8), eq5 =>
          try dsimp only at eq5
          split at eq5
          case isFalse => cases eq5
          case isTrue hz =>
          intro v2 F9 H9 α9 β2 S9 r9 T9 M9 N9
          obtain ⟨FA, SA, rA, TA, NA⟩ := S9.freeze r9 T9 M9 N9
          have mkA := mk8.go SA TA NA
          obtain ⟨ws, hws, lws, mkB⟩ := mkA.add rA
          obtain ⟨αC, mkC⟩ := mkB.wiped vs1
          rw [hw1] at mkC
          exact ⟨ws, hws, by rw [lws]; exact Nat.lt_trans hz (by decide), FA, _, αC, _, ⟨(ex6.trans T8.exF).trans TA.exF, (((z5.trans (.of q2)).trans (T8.kpz mk7.ste)).trans (TA.kpz mk8.ste)).trans (.upd hws fun _ _ => nofun)⟩, mkC, eq5⟩
      · rename_i eb
        refine ⟨false, frz_bl (H := H) r8 eb, ?_⟩
        rw [if_neg Bool.false_ne_true]
        obtain ⟨αC, mkC⟩ := mk8.wiped vs1
        rw [hw1] at mkC
        exact ⟨F8, _, αC, _, ⟨ex6.trans T8.exF, (z5.trans (.of q2)).trans (T8.kpz mk7.ste)⟩, mkC, eq5⟩
      · cases eq5⟩
end
end VL

namespace VL
open PySem PySem.Spec
open PyProof.Rows L2
open Evl (Ex sz_of)

/-! ### dict comprehensions -/
def dcLoop (vs : List Nat) (p : Pat) (mt mk mv : M) : List D → Rho → List (Key × D) → Option (List (Key × D) × Rho)
  | [], ρ, acc => some (acc, ρ)
  | d :: ds, ρ, acc => match bindP [] p d ρ with
    | none => none
    | some ρ1 => (match mt ρ1 with
      | some (.ok b, ρ2) => (match b.frz with
        | .bl true => (match mk ρ2 with
          | some (.ok o, ρ3) => (match mv ρ3 with
            | some (.ok o', ρ4) => (match keyD o.frz with
              | some k => if acc.length < 100000 then dcLoop vs p mt mk mv ds (wipeR ρ4 vs) (putD acc k o'.frz) else none
              | none => none)
            | _ => none)
          | _ => none)
        | .bl false => dcLoop vs p mt mk mv ds (wipeR ρ2 vs) acc
        | _ => none)
      | _ => none)
def mDc (mi : MI) (vs : List Nat) (p : Pat) (mt mk mv : M) : M := fun ρ => match mi ρ with
  | some (ds, ρ1) => if clean vs ρ1 = true then (dcLoop vs p mt mk mv ds ρ1 []).map fun x => (.ok (.dic x.1), x.2) else none
  | none => none
section
variable {G : Cn} {E E1 E2 E3 : XK} {F F1 F2 H H1 H2 : Hp} {σ σ1 : L2.St} {ρ ρ1 : Rho} {α α1 : Al}
structure PenD (G : Cn) (F H : Hp) (α : Al) (Dl : Addr) (ds : List (Key × D)) : Prop where
  fF : F Dl = none
  no : ¬ Own α Dl
  at' : ∃ vs, H Dl = some (.dK vs) ∧ RepsK G F vs ds
/-- the state, the dict that is made, how far all has gone -/
structure MkD (G : Cn) (F0 H0 : Hp) (α0 : Al) (Dl : Addr) (acc : List (Key × D)) (F H : Hp) (σ : L2.St) (ρ : Rho) (α : Al) : Prop where
  ste : Ste G F H σ ρ α
  pend : PenD G F H α Dl acc
  stp : Stp (Besd Dl α0) F0 H0 F H
  new : New (Besd Dl α0) H0 (Besd Dl α)
section
variable {F0 H0 : Hp} {α0 : Al} {Dl : Addr} {acc : List (Key × D)}
theorem MkD.go (m : MkD G F0 H0 α0 Dl acc F H σ ρ α) (S : Ste G F1 H1 σ1 ρ1 α1) (T : Stp (Own α) F H F1 H1) (N : New (Own α) H (Own α1)) : MkD G F0 H0 α0 Dl acc F1 H1 σ1 ρ1 α1 := by
  obtain ⟨kvs, h1, h2⟩ := m.pend.at'
  have nF : F1 Dl = none := by
    cases e : F1 Dl with
    | none => rfl
    | some u =>
      rcases T.newF Dl u e with z | z | z
      · rw [m.pend.fF] at z; cases z
      · rw [h1] at z; cases z
      · exact absurd z m.pend.no
  have nO : ¬ Own α1 Dl := fun z => by
    rcases N Dl z with y | y
    · exact m.pend.no y
    · rw [h1] at y; cases y
  exact ⟨S, ⟨nF, nO, kvs, T.kept h1 m.pend.no (.inl m.pend.fF), h2.mono T.exF⟩, m.stp.trans T.besd m.new, New.trans m.stp m.new N.besd⟩
theorem MkD.of (m : MkD G F0 H0 α0 Dl acc F H σ ρ α) (S : Ste G F H σ1 ρ1 α1) (o : ∀ a, Own α1 a → Own α a) : MkD G F0 H0 α0 Dl acc F H σ1 ρ1 α1 :=
  ⟨S, ⟨m.pend.fF, fun z => m.pend.no (o _ z), m.pend.at'⟩, m.stp, m.new.less o⟩
theorem MkD.wiped (m : MkD G F0 H0 α0 Dl acc F H σ ρ α) (vs : List Nat) : ∃ α2, MkD G F0 H0 α0 Dl acc F H (L2.wipe σ vs) (wipeR ρ vs) α2 := by
  obtain ⟨α2, S, o⟩ := m.ste.wipe vs
  exact ⟨α2, m.of S o⟩
theorem MkD.add {k : Key} {d : D} {v : V} (m : MkD G F0 H0 α0 Dl acc F H σ ρ α) (r : Rep G F v d) : ∃ kvs, H Dl = some (.dK kvs) ∧ kvs.length = acc.length ∧ MkD G F0 H0 α0 Dl (putD acc k d) F (upd H Dl (.dK (putK kvs k v))) σ ρ α := by
  obtain ⟨kvs, h1, h2⟩ := m.pend.at'
  have S := m.ste
  have S' : Ste G F (upd H Dl (.dK (putK kvs k v))) σ ρ α := by
    refine ⟨S.ex.mut m.pend.fF, S.len, fun i o e => ?_, S.off, S.dis⟩
    obtain ⟨u, h3, r3⟩ := S.slot i o e
    refine ⟨u, h3, r3.move (Ex.refl F) (fun b hb => (r3.mem b hb).1) fun b hb y hy => ?_⟩
    have ne : b ≠ Dl := fun z => m.pend.no (z ▸ ⟨i, hb⟩)
    rw [upd_ne ne]
    exact hy
  refine ⟨kvs, h1, h2.length, S', ⟨m.pend.fF, m.pend.no, _, upd_same, h2.put r⟩, m.stp.trans (A1 := Besd Dl α) ⟨Ex.refl F, fun b u e n => ?_, fun b u e => .inl e⟩ m.new, fun a z => m.new a z⟩
  rw [upd_ne fun y => n (.inr y)]
  exact .inl e
end
variable {wi : TI} {mi : MI} {g : TG} {p : Pat} {tt : TT} {mt mk mv : M} {tk tv : TE}
theorem sem_dc {vs : List Nat} (hi : SemI G wi mi) (hg : GSem G g p) (ht : SemT G E1 tt mt) (hk : Sem G E2 tk mk) (hv : Sem G E3 tv mv) (hp : ∀ j ∈ p.slots, j ∈ vs) :
    Sem G E (tDc wi g tt tk tv vs) (mDc mi vs p mt mk mv) := ⟨fun {F H σ ρ α Q} S h => by
  unfold mDc at h
  cases e : mi ρ with
  | none => rw [e] at h; exact h.elim
  | some x =>
    obtain ⟨ds, ρ1⟩ := x
    rw [e] at h
    try dsimp only at h
    split at h
    case isFalse => exact h.elim
    case isTrue hcl =>
    cases eL : dcLoop vs p mt mk mv ds ρ1 [] with
    | none => rw [eL] at h; exact h.elim
    | some y =>
    obtain ⟨accF, ρF⟩ := y
    rw [eL] at h
    refine hi.run S e fun J F1 H1 α1 S1 T1 N1 it => ?_
    intro Dl hD
    have Sw : Ste G F1 (upd H1 Dl (.dK [])) (L2.wipe σ vs) ρ1 α1 := (S1.put hD).wiped fun j hj o q => by
      rw [clean_mem hcl hj] at q
      cases q
    have m0 : MkD G F1 (upd H1 Dl (.dK [])) α1 Dl [] F1 (upd H1 Dl (.dK [])) (L2.wipe σ vs) ρ1 α1 := ⟨Sw, ⟨S1.fresh hD, S1.notown hD, [], upd_same, RepsK.nil⟩, .refl, .refl⟩
    have T1' : Stp (Own α) F H F1 (upd H1 Dl (.dK [])) := T1.trans (Ste.putStp hD (A := Own α1)) N1
    refine ⟨fun i m H' => m = ds.length - i ∧ i ≤ ds.length ∧ ∃ F' ρ' α' acc, MkD G F1 (upd H1 Dl (.dK [])) α1 Dl acc F' H' (L2.wipe σ vs) ρ' α' ∧ dcLoop vs p mt mk mv (ds.drop i) ρ' acc = some (accF, ρF), ⟨ds.length, by simp, Nat.zero_le _, F1, ρ1, α1, [], m0, eL⟩, ?_⟩
    rintro i m H' ⟨rfl, hi', F', ρ', α', acc, mm, eq⟩
    have z1 : Kpz H1 H' := (Kpz.of (Ex.new hD)).trans (mm.stp.kpzA fun a od u e z => z.elim (Sw.nofrz a od u e) fun y => by rw [y, upd_same] at e; cases e)
    obtain ⟨i1, i2, i3⟩ := it i mm.stp.exF mm.ste.ex z1
    by_cases hlt : i < ds.length
    case neg =>
      refine .inl ⟨i2 (by omega), ?_⟩
      rw [List.drop_of_length_le (by omega)] at eq
      cases eq
      obtain ⟨ws, hws, rws⟩ := mm.pend.at'
      have nA : New (Own α) H (Besd Dl α1) := fun a z => z.elim (fun y => N1 a y) fun y => by
        subst y
        by_cases z : Own α a
        · exact .inl z
        · cases e5 : H a with
          | none => exact .inr rfl
          | some u =>
            obtain ⟨u', k⟩ := T1.there e5 z
            rw [k] at hD
            cases hD
      refine h (.ref Dl) F' H' α' [Dl] mm.ste.unwiped ⟨Dl, ws, rfl, rfl, mm.pend.fF, hws, rws⟩ (T1'.trans mm.stp nA) (fun a ha => by
        rw [List.mem_singleton.mp ha]
        exact mm.pend.no) fun a z => ?_
      exact New.trans T1' nA mm.new a (z.elim .inl fun y => .inr (List.mem_singleton.mp y))
    case pos =>
    refine .inr ⟨i1 hlt, fun H2 => ∃ F' ρ' α' acc, MkD G F1 (upd H1 Dl (.dK [])) α1 Dl acc F' H2 (L2.wipe σ vs) ρ' α' ∧ dcLoop vs p mt mk mv (ds.drop (i + 1)) ρ' acc = some (accF, ρF), fun H2 n2 => ⟨ds.length - (i + 1), by omega, rfl, hlt, n2⟩, fun x H'' y => ?_⟩
    obtain ⟨d, hd⟩ : ∃ d, ds[i]? = some d := ⟨ds[i], by simp [hlt]⟩
    obtain ⟨F'', f1, f2, f3, f4, rx⟩ := i3 x H'' d hd y
    have mm2 := mm.go (mm.ste.grow f1 (kpt f2) f3 f4) (Stp.grow f1 (kpt f2) f3) .refl
    rw [drop_get hd] at eq
    unfold dcLoop at eq
    cases e2 : bindP [] p d ρ' with
    | none => rw [e2] at eq; cases eq
    | some ρ2 =>
    rw [e2] at eq
    try dsimp only at eq
    refine hg (pins := []) mm2.ste rx e2 fun σ2 α2 S3 o3 _ J3 => ?_
    have hw : L2.wipe σ2 vs = L2.wipe σ vs := (wipe_same J3.2 fun j hj => J3.1 j fun z => hj (hp j z)).trans (wipe_same (wipe_length σ vs) fun j hj => wipe_out hj)
    have mm3 := mm2.of S3 o3
    refine ⟨hw, ht.run S3 ?_⟩
    match q5 : mt ρ2, eq with
    | none, eq => cases eq
    | some (.ex c f, _), eq => cases eq
    | some (.ok b, ρ3), eq =>
      intro v F4 H4 α4 β S4 r4 T4 M4 N4
      obtain ⟨F5, S5, r5, T5, N5⟩ := S4.freeze r4 T4 M4 N4
      have mm5 := mm3.go S5 T5 N5
      try dsimp only at eq
      split at eq
      · rename_i eb
        refine ⟨true, frz_bl (H := H) r5 eb, ?_⟩
        rw [if_pos rfl]
        refine hk.run S5 ?_
        match q6 : mk ρ3, eq with
        | none, eq => cases eq
        | some (.ex c f, _), eq => cases eq
        | some (.ok o, ρ4), eq =>
          intro v2 F6 H6 α6 β2 S6 r6 T6 M6 N6
          obtain ⟨F7, S7, r7, T7, N7⟩ := S6.freeze r6 T6 M6 N6
          have mm7 := mm5.go S7 T7 N7
          try dsimp only at eq
          refine hv.run S7 ?_
          match q7 : mv ρ4, eq with
          | none, eq => cases eq
          | some (.ex c f, _), eq => cases eq
          | some (.ok o', ρ5), eq =>
            intro v3 F8 H8 α8 β3 S8 r8 T8 M8 N8
            obtain ⟨F9, S9, r9, T9, N9⟩ := S8.freeze r8 T8 M8 N8
            have mm9 := mm7.go S9 T9 N9
            try dsimp only at eq
            cases ek : keyD o.frz with
            | none => rw [ek] at eq; cases eq
            | some k =>
            rw [ek] at eq
            try dsimp only at eq
            split at eq
            case isFalse => cases eq
            case isTrue hz =>
            obtain ⟨kvs, hkv, lkv, mmA⟩ := mm9.add (k := k) r9
            obtain ⟨αC, mmC⟩ := mmA.wiped vs
            rw [hw] at mmC
            exact ⟨kvs, k, key_x (F := F7) (H := H6) (.inl r7) ek, hkv, by rw [lkv]; exact Nat.lt_trans hz (by decide), F9, _, αC, _, mmC, eq⟩
      · rename_i eb
        refine ⟨false, frz_bl (H := H) r5 eb, ?_⟩
        rw [if_neg Bool.false_ne_true]
        obtain ⟨αC, mmC⟩ := mm5.wiped vs
        rw [hw] at mmC
        exact ⟨F5, _, αC, _, mmC, eq⟩
      · cases eq⟩
end
end VL

namespace PySem
open Sem (wp)
/-- the two objects that enumerate(v) makes -/
abbrev enObj (it : Addr) : Obj := { cls := .type "enumerate", data := .fields #[.none, .bool false, .ref it, rawInt 0, .none, .none] }
theorem vl_enum_new {v : Value} {o : Obj} {c : Heap → Prop} (B : Begins v o c) :
    Meets (Builtin.«enumerate.__new__» ⟨[.type "enumerate", v], []⟩) (fun _ R s => c s.heap ∧ R (.ok (.ret (.ref (s.heap.push o).objs.size))) { s with heap := (s.heap.push o).push (enObj s.heap.objs.size) }) := by
  refine .of_wp fun prog w A R s got => ?_
  obtain ⟨hp, gens, dr, tk, os⟩ := s
  obtain ⟨c0, fin⟩ := got
  have known := sub_enumerate
  have first : ∀ {B' : Around} {E : Value → Shared → Prop} {Q : Value → Shared → Prop}, Q (.ref hp.objs.size) ⟨hp.push o, gens, dr, tk, os⟩ → wpAny (model prog w) B' (pyIter v) Q E ⟨hp, gens, dr, tk, os⟩ := fun q => B.iter prog w _ _ ⟨hp, gens, dr, tk, os⟩ _ c0 q
  wp_walk using first
  refine wpAny_stack_any fun frames => wpAny_pure ?_
  split
  · rename_i kind _ _ _ _ _
    cases (kind == Value.type "enumerate") <;> (wp_walk using first; exact ⟨_, rfl, fin⟩)
  · wp_walk using first
    exact ⟨_, rfl, fin⟩
theorem vl_call_enum {prog : Program} {w : World} {A : Around} {E : Value → Shared → Prop} {s : Shared} {v : Value} {o : Obj} {c : Heap → Prop} {Q : Value → Shared → Prop} (B : Begins v o c) (h1 : c s.heap)
    (k : ∀ h', IsEnum h' (s.heap.objs.size + 1) s.heap.objs.size 0 .none → h'.get? s.heap.objs.size = some o → (∀ b o, s.heap.get? b = some o → h'.get? b = some o) → Q (.ref (s.heap.objs.size + 1)) { s with heap := h' }) :
    wpAny (model prog w) A (call (.type "enumerate") [v]) Q E s := by
  have sz : (s.heap.push o).objs.size = s.heap.objs.size + 1 := Heap.size_push ..
  have at1 : ((s.heap.push o).push (enObj s.heap.objs.size)).get? (s.heap.objs.size + 1) = some (enObj s.heap.objs.size) := by
    rw [← sz]
    exact Heap.get?_push_size _ rfl
  have at0 : ((s.heap.push o).push (enObj s.heap.objs.size)).get? s.heap.objs.size = some o := Heap.get?_push_of_some _ (Heap.get?_push_size _ B.free)
  have fin := k _ at1 at0 fun b u e => Heap.get?_push_of_some _ (Heap.get?_push_of_some _ e)
  refine callType_new F.called_enumerate (by decide) (F.typeCall_enumerate_1 _) (F.newCall_enumerate_1 _) (fun obj => F.args_object_init_2 obj _) F.entry_enumerate_new (vl_enum_new B) ⟨h1, ?_⟩
  rw [sz]
  exact ⟨⟨_, at1, rfl⟩, fin⟩
end PySem
namespace VL
open PySem PySem.Spec
open PyProof.Rows L2
open Evl (Ex sz_of)
/-! ### enumerate of one source, walked: by the library's GoesN.enumFrom -/
def eAt (S : Src) (n : Nat) (N : Addr) (i : Nat) (h : Heap) : Prop := (∃ old, IsEnum h (N + 1) N (0 + (i : Int)) old) ∧ S.ci N i h ∧ i ≤ n
theorem eWalk {X : Cx} {elts : List Expr} {kk : Nat} {tpos : Pos} {S : Src} {u : Value} {xs : List V} {Gd : Hp → Prop} {N : Addr} {pins : List (Addr × Obj)} {σ : L2.St} {H : Hp} {s : Shared} (f : SrcIn X S u xs Gd) (lt : ∀ b ∈ S.ex, b < N) (hc : X.calm = true) (I : Inv X pins σ H s) (g : Gd H) :
    ∃ c : Heap → Prop, c s.heap ∧ GoesN X.prog X.w X.A (.Tuple elts kk tpos) (N + 1) ((N + 1) :: N :: S.ex) [N + 1, N] xs.length
      (fun i h₀ v h => ∃ T t x, v = .ref T ∧ h₀.objs.size ≤ T ∧ (∃ d, xs[i]? = some d ∧ RelV d x) ∧ h.IsTuple T #[.int (0 + (i : Int)) t, x]) (fun i h => (∃ old, IsEnum h (N + 1) N (0 + (i : Int)) old) ∧ S.ci N i h ∧ c h) := by
  obtain ⟨c, hp, _, _, dr⟩ := f pins σ H s I g
  have hd : X.A.in1.handled = none := I.ok.hd hc
  have n1 : N ∉ S.ex := fun z => absurd (lt N z) (Nat.lt_irrefl _)
  have n2 : N + 1 ∉ N :: S.ex := fun z => by
    rcases List.mem_cons.mp z with z | z
    · exact absurd z (Nat.succ_ne_self N)
    · exact absurd (lt _ z) (Nat.not_lt.mpr (Nat.le_succ N))
  exact ⟨c, hp, GoesN.enumFrom 0 (dr X.A.in1 N hd n1) (N + 1) (Nat.succ_ne_self N) n2 List.mem_cons_self⟩
theorem turn_enumV {P : Program} {w : World} {K : PySem.W.Frag} {elts : List Expr} {kk : Nat} {tpos : Pos} {S : Src} {u : Value} {xs : List V} {Gd : Hp → Prop} {N : Addr} (f : ∀ X : Cx, X.K = K → SrcIn X S u xs Gd) (lt : ∀ b ∈ S.ex, b < N) :
    Turn P w K (.Tuple elts kk tpos) (ItE xs Gd) [N + 1, N] (N + 1) (eAt S xs.length N) where
  mem := List.mem_cons_self
  obj := fun i h t b hb => by
    obtain ⟨⟨old, z⟩, z2, _⟩ := t
    simp only [List.mem_cons, List.not_mem_nil, or_false] at hb
    rcases hb with q | q <;> subst q
    · exact ⟨_, z, fun _ x => nomatch x⟩
    · exact S.liv _ _ _ z2
  keep := fun i h h' t k => by
    obtain ⟨⟨old, z⟩, z2, z3⟩ := t
    exact ⟨⟨old, k _ (by simp) _ z⟩, S.mov h h' N i z2 (k N (by simp)), z3⟩
  self := fun A i s Q E t q => by
    obtain ⟨⟨old, z⟩, _⟩ := t
    exact wpAny_pyIter_enum z q
  item := by
    intro X e1 e2 e3 hc i pins s σ H E I ok t go
    subst e1 e2 e3
    obtain ⟨c, hp, W⟩ := eWalk (elts := elts) (kk := kk) (tpos := tpos) (f X rfl) lt hc I go.1
    obtain ⟨⟨old, z1⟩, z2, z3⟩ := t
    obtain ⟨oN, hN, _⟩ := S.liv _ _ _ z2
    refine W.goes i s _ E go.2 ⟨⟨old, z1⟩, z2, hp⟩ fun v h' tk y st kp _ => ?_
    obtain ⟨T, tt, a, ev, hT, ⟨x, hx, rx⟩, tp⟩ := y
    subst ev
    obtain ⟨y1, y2, _⟩ := st
    have e0 : (0 : Int) + (i : Int) = (i : Nat) := by omega
    rw [e0] at tp
    have ob : ObjOk X.prog X.w (upd H T (.tup [.int (i : Nat), x])) h' T (.tup [.int (i : Nat), x]) := ⟨by rw [sizeLine_eq]; show 2 ≤ 16777216; decide, [.int (i : Nat) tt, a], .cons ⟨tt, rfl⟩ (.cons rx .nil), tp⟩
    refine ⟨.ref T, _, I.turnedNew (t' := tk) (ch := [N + 1, N]) kp ok hT ob, rfl, ⟨T, x, rfl, I.hok.fresh hT, rfl, hx⟩, ⟨y1, y2, go.2⟩, fun b hb => ?_⟩
    have hb' : b < s.heap.objs.size := by
      simp only [List.mem_cons, List.not_mem_nil, or_false] at hb
      rcases hb with q | q <;> subst q
      · exact Heap.lt_size z1
      · exact Heap.lt_size hN
    have ne : b ≠ T := Nat.ne_of_lt (Nat.lt_of_lt_of_le hb' hT)
    rw [upd_ne ne]
    exact (ok b hb).1
  done := by
    intro X e1 e2 e3 hc i pins s σ H E I ok t stp
    subst e1 e2 e3
    obtain ⟨c, hp, W⟩ := eWalk (elts := elts) (kk := kk) (tpos := tpos) (f X rfl) lt hc I stp.1
    obtain ⟨z1, z2, z3⟩ := t
    have hi : i = xs.length := Nat.le_antisymm z3 stp.2
    rw [hi] at z1 z2
    exact W.stops s _ E ⟨z1, z2, hp⟩ fun h' tk kp _ => I.turnedL (t' := tk) (ch := [N + 1, N]) kp ok
theorem pi_enumV {X : Cx} {a : Expr} {ta : TA} {p pos tpos : Pos} {elts : List Expr} {kk : Nat} (hg : Gl X "enumerate") (hm : X.mg "enumerate" = none) (ha : PA X [a] ta) (h1 : starEach [a] X.env = (false, eval a X.env) :: starEach [] X.env := by rfl) (h2 : (backTo pos (starEach [] X.env)).any (·.1) = false := by rfl) :
    PI X (.Tuple elts kk tpos) (.Call (.Name "enumerate" p) [a] [] pos) (iEnumV X.K ta) where
  run := fun pins s σ H R I h => by
    have args := ha.run pos pins s σ H _ I h
    refine Call_ (ld_blt I hg hm boot_enumerate ?_)
    refine callWith_type1 (thn args fun us s1 got => ?_) h1 h2
    obtain ⟨vs, H1, I1, rel, v, xs, Gd, ev, k1, g, q⟩ := got
    subst ev
    obtain ⟨c, eu, rc⟩ := vals1 rel
    subst eu
    obtain ⟨S, f⟩ := k1.src rc
    obtain ⟨hc, p1, B, lt, _⟩ := f X rfl pins σ H1 s1 I1 g
    refine vl_call_enum B p1 fun h' z1 i1 kp => wpAny_pyIter_enum z1 ?_
    refine ⟨_, [s1.heap.objs.size + 1, s1.heap.objs.size], eAt S xs.length s1.heap.objs.size, _, H1, rfl, I1.kept (t' := s1.toks) kp, turn_enumV f lt, ⟨⟨_, z1⟩, S.ini _ _ i1, Nat.zero_le _⟩, fun b hb => ?_, q⟩
    have hb' : s1.heap.objs.size ≤ b := by
      simp only [List.mem_cons, List.not_mem_nil, or_false] at hb
      rcases hb with z | z <;> rw [z]
      · exact Nat.le_succ _
      · exact Nat.le_refl _
    exact I1.fpOk hb' (I1.hok.fresh hb')
end VL

namespace VL
open PySem PySem.Spec
open PyProof.Rows L2
open Evl (Ex sz_of)

/-! ### sorted, of ints -/
def setIn (x : Int) : List Int → List Int
  | [] => [x]
  | y :: r => if x ≤ y then x :: y :: r else y :: setIn x r
def isort : List Int → List Int
  | [] => []
  | x :: r => setIn x (isort r)
theorem setIn_perm (x : Int) : ∀ l, (setIn x l).Perm (x :: l)
  | [] => .refl _
  | y :: r => by
    unfold setIn
    split
    · exact .refl _
    · exact ((setIn_perm x r).cons y).trans (.swap x y r)
theorem isort_perm : ∀ l, (isort l).Perm l
  | [] => .refl _
  | x :: r => (setIn_perm x _).trans ((isort_perm r).cons x)
theorem setIn_up (x : Int) : ∀ l : List Int, l.Pairwise (· ≤ ·) → (setIn x l).Pairwise (· ≤ ·)
  | [], _ => by simp [setIn]
  | y :: r, h => by
    have h' := List.pairwise_cons.mp h
    unfold setIn
    split
    · rename_i le
      refine List.pairwise_cons.mpr ⟨fun z hz => ?_, h⟩
      rcases List.mem_cons.mp hz with q | q
      · rw [q]; exact le
      · exact Int.le_trans le (h'.1 z q)
    · rename_i gt
      refine List.pairwise_cons.mpr ⟨fun z hz => ?_, setIn_up x r h'.2⟩
      rcases List.mem_cons.mp ((setIn_perm x r).mem_iff.mp hz) with q | q
      · rw [q]; omega
      · exact h'.1 z q
theorem isort_up : ∀ l, (isort l).Pairwise (· ≤ ·)
  | [] => .nil
  | x :: r => setIn_up x _ (isort_up r)
theorem hu65_of {A : Around} {k : Nat} (r : L2.Room k A) : A.units + 65 < cLine := by have := r.un; omega
theorem isort_only {a l : List Int} (p : a.Perm l) (u : a.Pairwise (· ≤ ·)) : a = isort l := PySem.W.ksm_same (p.trans (isort_perm l).symm) u (isort_up l)
def intsD : List D → Option (List Int)
  | [] => some []
  | .int i :: r => (intsD r).map (i :: ·)
  | _ => none
def fSortI : List D → Option O
  | [.lst ds] => (intsD ds).map fun ns => .lst ((isort ns).map .int)
  | [.tup ds] => none
  | _ => none
section
variable {G : Cn} {F H : Hp} {σ : L2.St} {ρ : Rho} {α : Al}
theorem intsD_reps : ∀ {vs : List V} {ds : List D} {ns : List Int}, Reps G F vs ds → intsD ds = some ns → vs = ns.map V.int
  | _, [], ns, h, e => by
    cases e
    rw [h.of_nil]
    rfl
  | _, d :: ds, ns, h, e => by
    obtain ⟨v, r, rfl, h1, h2⟩ := h.of_cons
    cases d <;> try cases e
    rename_i i
    unfold intsD at e
    cases q : intsD ds with
    | none => rw [q] at e; cases e
    | some ms =>
      rw [q] at e
      cases e
      rw [intsD_reps h2 q, h1.toInt]
      rfl
theorem cs_sortI : CSem G (rSortedI G.K) fSortI := fun {E F H σ ρ α Q vs ds} S hv h => by
  unfold fSortI at h
  split at h
  · rename_i ds0
    obtain ⟨v, rfl, hx⟩ := hv.one
    obtain ⟨a, ws, rfl, h1, h2⟩ := hx.l S.ex
    cases q : intsD ds0 with
    | none => rw [q] at h; exact h.elim
    | some ns =>
      rw [q] at h
      refine ⟨a, ns, rfl, by rw [← intsD_reps h2 q]; exact SqL.of h1, fun ns' p pm up hp => ?_⟩
      rw [isort_only pm up]
      exact Post.newL h S hp (reps_ints (isort ns))
  · exact h.elim
  · exact h.elim
end
/-! ### the place of an item -/
def idxOf : List PyData → PyData → Option Nat
  | [], _ => none
  | z :: r, p => if PyData.eqv z p = true then some 0 else (idxOf r p).map (· + 1)
theorem idxOf_some : ∀ {l : List PyData} {p : PyData} {j : Nat}, idxOf l p = some j → (∃ z, l[j]? = some z ∧ PyData.eqv z p = true) ∧ ∀ (m : Nat) (z' : PyData), m < j → l[m]? = some z' → PyData.eqv z' p = false
  | [], _, _, h => by cases h
  | z :: r, p, j, h => by
    unfold idxOf at h
    split at h
    · rename_i e
      cases h
      exact ⟨⟨z, rfl, e⟩, fun m z' hm => absurd hm (Nat.not_lt_zero m)⟩
    · rename_i e
      cases q : idxOf r p with
      | none => rw [q] at h; cases h
      | some i =>
        rw [q] at h
        cases h
        obtain ⟨⟨y, hy, ey⟩, no⟩ := idxOf_some q
        refine ⟨⟨y, by simpa using hy, ey⟩, fun m z' hm hz => ?_⟩
        cases m with
        | zero =>
          have : z = z' := by simpa using hz
          rw [← this]
          simpa using e
        | succ m =>
          have hm' : m + 1 < i + 1 := hm
          exact no m z' (by omega) (by simpa using hz)
def idxD (x y : D) : Option O := match toPy x, toPy y with
  | some (.list ps), some p => if (SeqAt.shaped (.list ps) && SeqAt.shaped p) = true then (idxOf ps p).map fun j => .val (.int (j : Nat)) else none
  | _, _ => none
def mIdx (a b : M) : M := fun ρ => bnd (a ρ) fun o ρ1 => match o.frz with
  | .lst _ => bnd (b ρ1) fun o' ρ2 => (idxD o.frz o'.frz).map fun x => (.ok x, ρ2)
  | _ => none
section
variable {G : Cn} {E : XK} {ta tb : TE} {ma mb : M}
theorem sem_idx (ha : Sem G E ta ma) (hb : Sem G E tb mb) : Sem G E (tBM G.K "list" (rIndexD G.K) ta (tCons tb tNil)) (mIdx ma mb) := ⟨fun {F H σ ρ α Q} S h => by
  unfold mIdx at h
  refine ha.run S (Post.to h fun o ρ1 v F1 H1 α1 S1 r1 T1 N1 h1 => ?_)
  split at h1
  · rename_i ds0 e0
    have r1' := r1
    rw [e0] at r1'
    unfold Rep at r1'
    obtain ⟨a, vs, ev, h2, h3⟩ := r1'
    subst ev
    refine ⟨.inl ⟨rfl, vs, SqL.of (S1.ex.x h2)⟩, hb.run S1 (Post.to (Post.shift T1 N1 h1) fun o2 ρ2 v2 F2 H2 α2 S2 r2 T2 N2 h4 => ?_)⟩
    unfold idxD at h4
    split at h4
    · rename_i ps p e1 e2
      split at h4
      · rename_i sh
        rw [Bool.and_eq_true] at sh
        cases ej : idxOf ps p with
        | none => rw [ej] at h4; exact h4.elim
        | some j =>
          rw [ej] at h4
          obtain ⟨⟨z, hz, ez⟩, no⟩ := idxOf_some ej
          exact ⟨a, v2, p, ps, j, z, rfl, rfl, toPy_dp S2.ex _ (r1.mono T2.exF) e1, toPy_dp S2.ex _ r2 e2, sh.1, sh.2, hz, ez, no, Post.val (Post.shift T2 N2 h4) S2 Rep.ofInt⟩
      · exact h4.elim
    · exact h4.elim
  · exact h1.elim⟩
end
end VL

namespace VL
open PySem PySem.Spec
open PyProof.Rows L2
open Evl (Ex sz_of)

/-! ### list(range(n)) -/
def mLR1 (a : M) : M := fun ρ => bnd (a ρ) fun o ρ1 => match o.frz with
  | .int n => if -1000000 ≤ n ∧ n ≤ 100000 then some (.ok (.lst (range 0 n.toNat)), ρ1) else none
  | _ => none
section
variable {G : Cn} {E : XK} {F H : Hp} {σ : L2.St} {ρ : Rho} {α : Al} {ta : TE} {ma : M}
theorem reps_rg (n : Int) : Reps G F (rgV 0 n) (range 0 n.toNat) := by
  have e : rgV 0 n = (List.range n.toNat).map fun (i : Nat) => V.int (0 + (i : Int)) := by
    unfold rgV
    rw [Int.sub_zero]
  rw [e]
  unfold range
  generalize List.range n.toNat = l
  induction l with
  | nil => exact Reps.nil
  | cons i l ih => exact Reps.cons Rep.ofInt ih
theorem sem_lr1 (ha : Sem G E ta ma) : Sem G E (tLstRg (tRg1 ta)) (mLR1 ma) := ⟨fun {F H σ ρ α Q} S h =>
  ha.run S (Post.to h fun o ρ1 v F1 H1 α1 S1 r1 T1 N1 h1 => by
    split at h1
    · rename_i n e
      rw [e] at r1
      split at h1
      · rename_i hn
        have ok : RgOk 0 n := ⟨by decide, by decide, by omega, by omega, by omega⟩
        exact ⟨n, r1.toInt, ok, fun q hq => Post.newL (Post.shift T1 N1 h1) S1 hq (reps_rg n)⟩
      · exact h1.elim
    · exact h1.elim)⟩
end
/-! ### a def's promise at arguments that are data -/
section
variable {G : Cn} {E : XK} {F1 H1 : Hp} {σ : L2.St} {ρ1 : Rho} {α1 : Al} {fn : Fn} {n : Nat}
def onData (fn : Fn) (ds : List D) (ρ : Rho) : Option (Res × Rho) := match fn (ds.map .val) with
  | some (r, _) => some (r, ρ)
  | none => none
theorem spF_data {E1 : XK} {vs : List V} {ds : List D} {Q : VK} (hE : E1 = E ∨ ∀ os c f os', fn os ≠ some (.ex c f, os')) (hl : ∀ os r, fn os = some r → os.length = n) (S1 : Ste G F1 H1 σ ρ1 α1) (sr : Reps G F1 vs ds)
    (h2 : Post G E F1 H1 σ α1 (onData fn ds ρ1) Q) : spF G fn n vs H1 Q E1 := by
  unfold onData at h2
  match q : fn (ds.map O.val), h2 with
  | none, h2 => exact h2.elim
  | some (r, os'), h2 =>
    refine ⟨by rw [sr.length, ← hl _ _ q, List.length_map], F1, ds.map O.val, fun _ => [], Ste.args S1.ex sr, ?_⟩
    rw [q]
    have ow : ∀ a, ¬ Own (fun _ => ([] : List Addr)) a := fun a ⟨_, z⟩ => nomatch z
    match r, h2 with
    | .ok o, h2 =>
      exact fun v F' H' α' β S' R' T' M' N' => by
        have kp : Kpt F1 H1 H' := fun b u hb => T'.keep b u hb (ow b)
        have nf : ∀ b u, F' b = some u → F1 b = some u ∨ H1 b = none := fun b u hb => (T'.newF b u hb).elim .inl fun z => z.elim .inr fun y => (ow b y).elim
        refine h2 v F' H' α1 β (S1.grow T'.exF kp nf S'.ex) R' (T'.weak fun a z => (ow a z).elim) (fun a ha z => ?_) fun a z => ?_
        · rcases N' a (.inr ha) with y | y
          · exact ow a y
          · exact S1.notown y z
        · rcases z with z | z
          · exact .inl z
          · rcases N' a (.inr z) with y | y
            · exact (ow a y).elim
            · exact .inr y
    | .ex c none, h2 =>
      rcases hE with rfl | hE
      · exact fun F' H' T' => h2 F' H' (T'.weak fun a z => (ow a z).elim)
      · exact (hE _ _ _ _ q).elim
    | .ex c (some fs), h2 =>
      rcases hE with rfl | hE
      · exact fun F' H' dd fvs T' => h2 F' H' dd fvs (T'.weak fun a z => (ow a z).elim)
      · exact (hE _ _ _ _ q).elim
end
/-! ### o.m(..), o.p of own classes -/
def mMeth (c : Nat) (m : Str) (fn : Fn) (a : M) (ms : MA) : M := fun ρ => bnd (a ρ) fun o ρ1 => match o.frz with
  | .ins c' fs => if c' = c ∧ fs.lookup m = none then bnd (ms ρ1) fun ais ρ2 => (match dsOnly ais with
    | some ds => onData fn (.ins c' fs :: ds) ρ2
    | none => none) else none
  | _ => none
def mProp (c : Nat) (fn : Fn) (a : M) : M := fun ρ => bnd (a ρ) fun o ρ1 => match o.frz with
  | .ins c' fs => if c' = c then onData fn [.ins c' fs] ρ1 else none
  | _ => none
section
variable {G : Cn} {E E1 : XK} {ta : TE} {ma : M} {t : TA} {ms : MA} {fn : Fn} {n c : Nat} {m : Str}
theorem sem_meth (hE : E1 = E ∨ ∀ os c f os', fn os ≠ some (.ex c f, os')) (hl : ∀ os r, fn os = some r → os.length = n) (ha : Sem G E ta ma) (ht : SemA G E t ms) : Sem G E (tMeth (G.cls c) m (spF G fn n) [] E1 ta t) (mMeth c m fn ma ms) := ⟨fun {F H σ ρ α Q} S h =>
  ha.run S (Post.to h fun o ρ1 v F1 H1 α1 S1 r1 T1 N1 h1 => by
    split at h1
    · rename_i c' fs e
      rw [e] at r1
      split at h1
      · rename_i hc
        obtain ⟨rfl, hm⟩ := hc
        have r1' := r1
        unfold Rep at r1
        obtain ⟨a, dx, fvs, ev, e1, e2⟩ := r1
        refine ⟨a, dx, fvs, ev, S1.ex.x e1, repsF_none e2 hm, ht.run S1 (PostA.to (Post.shift T1 N1 h1) fun xs ρ2 vs F2 H2 α2 S2 r2 T2 N2 h2 => ?_)⟩
        rw [List.append_nil]
        split at h2
        · rename_i ds ed
          exact spF_data hE hl S2 (Reps.cons (r1'.mono T2.exF) (dsOnly_r r2 ed)) (Post.shift T2 N2 h2)
        · exact h2.elim
      · exact h1.elim
    · exact h1.elim)⟩
theorem sem_prop (hE : E1 = E ∨ ∀ os c f os', fn os ≠ some (.ex c f, os')) (hl : ∀ os r, fn os = some r → os.length = n) (ha : Sem G E ta ma) : Sem G E (tProp (G.cls c) (spF G fn n) [] E1 ta) (mProp c fn ma) := ⟨fun {F H σ ρ α Q} S h =>
  ha.run S (Post.to h fun o ρ1 v F1 H1 α1 S1 r1 T1 N1 h1 => by
    split at h1
    · rename_i c' fs e
      rw [e] at r1
      split at h1
      · rename_i hc
        subst hc
        have r1' := r1
        unfold Rep at r1
        obtain ⟨a, dx, fvs, ev, e1, e2⟩ := r1
        refine ⟨a, dx, fvs, ev, S1.ex.x e1, ?_⟩
        rw [← ev]
        exact spF_data hE hl S1 (Reps.one r1') (Post.shift T1 N1 h1)
      · exact h1.elim
    · exact h1.elim)⟩
end
end VL

namespace VL
open PySem PySem.Spec
open PyProof.Rows L2
open Evl (Ex sz_of)

/-! ### errors of the program's own that are made with a text, and defs that raise, called -/
def sRaise0 (c : Nat) : MS := fun _ ρ => some (.ex c none, ρ)
section
variable {G : Cn} {E : XK}
theorem semS_raise0 {c : Nat} : SemS G E (fun _ σ H => E (.ref (G.cls c)) none H) (sRaise0 c) := ⟨fun {F H σ ρ α D pins} S h => h F H .refl⟩
end
/-- what the written part says of such a class -/
structure OwnErr (K : PySem.W.Frag) (C : Addr) : Prop where
  made : PySem.W.excIn K C PySem.HandSPX.veTail "ValueError.__new__" = true
  keep : PySem.W.keepIn K (.ref C) = true
  base : PySem.W.subIn K (.ref C) (.type "BaseException") = some true
  isC : PySem.W.typeIn K (.ref C) = some (.type "type")
theorem ps_raise0 {X : Cx} {C : Addr} {x m : Str} {j : Nat} {p p2 pos pos2 : Pos} {W : WX} (hc : X.calm = true) (tk : Takes X W) (T : OwnErr X.K C) (hm : X.mg x = some (.ref C)) (hg : Gl X x := by rfl) (hdb : (x == ("__debug__" : Str)) = false := by decide) :
    PS X (.Raise (some (.Call (.Name x p) [.Constant (.str m) j p2] [] pos)) none pos2) (fun _ σ H => W (.ref C) none σ H) :=
  L2.ps_raise hc tk (pmk_own PySem.F.excBase_ValueError T.made hm T.keep (raises_own T.base T.isC) hg hdb)
section
variable {X : Cx} {x : Str} {p pos : Pos} {e : Expr} {es : List Expr} {t : TA} {f : Addr} {k : Nat} {ps : List Str} {sp : Sp} {CX : CXT} {E : XK}
theorem pe_callX (O : OkAt X.prog X.w X.K X.mg X.base CX k f ps sp) (hx : Passes CX X E) (hr : Room k X.A) (hm : X.mg x = some (.ref f)) (ha : PA X (e :: es) t) (hg : Gl X x := by rfl)
    (he : starEach (e :: es) X.env = (false, eval e X.env) :: starEach es X.env := by rfl) (hpl : (backTo pos (starEach es X.env)).any (·.1) = false := by rfl) (hdb : (x == ("__debug__" : Str)) = false := by decide) :
    PE X (.Call (.Name x p) (e :: es) [] pos) (tCall sp [] E t) := by
  obtain ⟨fd, F, B, kp⟩ := O.ok
  exact pe_call F hr hg hm kp B .nil hx ha hdb he hpl
theorem pe_methX {C : Addr} {m : Str} {o : Expr} {ta : TE} {apos : Pos} {pl : PySem.Sem Bool} (O : OkAt X.prog X.w X.K X.mg X.base CX k f ps sp) (c : Cls X.K C) (hm : Meth X.K C m f) (hx : Passes CX X E) (hr : Room k X.A) (he : PE X o ta) (ha : PA X (e :: es) t)
    (hst : starEach (e :: es) X.env = (false, eval e X.env) :: starEach es X.env := by rfl) (hpl : (backTo pos (starEach es X.env)).any (·.1) = false := by rfl)
    (ht : eval (.Call (.Attribute o m apos) (e :: es) [] pos) X.env = (do
      let ov ← eval o X.env
      standAt apos.atName
      let (g, fst) ← holding [ov] (getMethod ov m pl)
      callWith pos g fst (backTo pos (starEach (e :: es) X.env)) (backToKw pos (keywordEach [] X.env))) := by rfl) : PE X (.Call (.Attribute o m apos) (e :: es) [] pos) (tMeth C m sp [] E ta t) := by
  obtain ⟨fd, F, B, kp⟩ := O.ok
  exact pe_meth he c hm F hr B .nil hx ha hst hpl ht
theorem pe_propX {C : Addr} {m : Str} {o : Expr} {ta : TE} (O : OkAt X.prog X.w X.K X.mg X.base CX k f ps sp) (c : Cls X.K C) (hp : ∃ p, PropOf X.K C m p f) (hx : Passes CX X.nox E) (hr : Room (k + 1) X.A) (he : PE X o ta)
    (hab : attributeBase o m X.env (eval o X.env) = eval o X.env) : PE X (.Attribute o m pos) (tProp C sp [] E ta) := by
  obtain ⟨fd, F, B, kp⟩ := O.ok
  obtain ⟨p, hp⟩ := hp
  exact pe_prop he c hp F hr B .nil hx hab
theorem passX {X : Cx} {E : XK} (tk : Takes X (fun cls d _ H => E cls d H)) : Passes (L2.CX X.prog X.w) X E := L2.passes_call tk fun _ _ _ _ h => h
end
end VL

namespace VL
open PySem PySem.Spec
open PyProof.Rows L2
open Evl (Ex sz_of)

/-! ### a def called in the frames as they are, a little deeper -/
section
variable {X : Cx} {CX : CXT} {k : Nat} {f C : Addr} {fd : FuncData} {ps : List Str} {sp : Sp} {E : XK}
theorem run_own {A : Around} {pins : List (Addr × Obj)} {σ : L2.St} {H : Hp} {s : Shared} {Q : VK} {us : List Value} {vs : List V} (fr : A.frames = some X.stack) (F : FnOk X.prog X.w X.K X.mg X.base CX k f fd ps sp) (hr : Room k A) (hb : Binds X.K fd ps []) (hx : Passes CX X E) (I : Inv X pins σ H s) (rel : Vals vs us) (h : sp vs H Q E) :
    wpAny (model X.prog X.w) A (call (.ref f) us) (EP X pins σ Q) X.xe s := by
  have e := I.env0
  have env : Env0 X.prog X.w X.K X.mg X.base A X.stack s H := ⟨fr, e.mod, e.bs, e.bsz, e.funs, e.frf, e.hok, e.bare⟩
  have len : us.length = ps.length := rel.length.symm.trans (F.len _ _ _ _ h)
  have bind : BindsTo s fd ⟨us, []⟩ (ps.zip us) := by
    have := hb s us I.kIn (by simpa using len)
    simpa using this
  have go := F.run A X.stack s H ⟨us, []⟩ us vs Q E hr env bind rel h
  refine wpAny_call (codeAny_mono go fun r s' out => ?_)
  match r, out with
  | .error u, out => exact hx pins σ H s u s' I out
  | .ok (.ret u), out => exact I.after out
  | .ok .next, out => exact out.elim
  | .ok .brk, out => exact out.elim
  | .ok .cont, out => exact out.elim
end
/-! ### == of own classes, with their own __eq__, and != by it -/
/-- both are instances of the class at C; what its __eq__ says, a truth value -/
def rOwn (C : Addr) (sp : Sp) (neg : Bool) : R2 := fun x y H Q => ∃ a b dx dy fs gs, x = .ref a ∧ y = .ref b ∧ H a = some (.ins C dx fs) ∧ H b = some (.ins C dy gs) ∧ sp [x, y] H (fun v H' => ∃ t, v = .bl t ∧ Q (.bl (if neg = true then !t else t)) H') E0
structure OwnCmp (K : PySem.W.Frag) (C f : Addr) : Prop where
  eq : PySem.W.findIn K (.ref C) "__eq__" = some (some (.ref f))
  fnOk : PySem.W.isFn K (.ref f) = true
  ne : PySem.W.findIn K (.ref C) "__ne__" = some (some (.builtin "object.__ne__"))
  ob : PySem.W.mroIn K C (.type "object") = some true
section
variable {X : Cx} {k : Nat} {f C : Addr} {ps : List Str} {sp : Sp}
theorem op_own (O : OkAt X.prog X.w X.K X.mg X.base CX0 k f ps sp) (c : OwnCmp X.K C f) (hr : Room k X.A) : OpR X (compareOp .Eq) (rOwn C sp false) := by
  obtain ⟨fd, F, B, _⟩ := O.ok
  intro pns s σ H x y v u Q inv rx ry got
  obtain ⟨a, b, dx, dy, fs, gs, ex, ey, ha, hb, h⟩ := got
  subst ex ey
  cases rx
  cases ry
  obtain ⟨mA, JA, _⟩ := ins_get inv.hok ha
  obtain ⟨mB, JB, _⟩ := ins_get inv.hok hb
  obtain ⟨oa, IA, _⟩ := JA.look
  obtain ⟨ob, IB, _⟩ := JB.look
  obtain ⟨m, fr⟩ := inv.fr
  have un : X.A.units < cLine := by have := hr.un; omega
  refine PySem.W.cmp_ofEq ?_
  refine PySem.W.cmp_K (op := .Eq) (tb := .ref C) un fr inv.ok.mod.kin IA IB.type (by simp [PySem.W.notFirst]) c.eq c.fnOk ?_
  have rel : Vals [V.ref a, V.ref b] [Value.ref a, Value.ref b] := .cons (show RelV (V.ref a) (Value.ref a) from rfl) (.cons (show RelV (V.ref b) (Value.ref b) from rfl) .nil)
  refine thn (run_own inv.env0.frames F hr B pass0 inv rel h) fun w s' out => ?_
  obtain ⟨z, H', I', rz, t, ez, q⟩ := out
  subst ez
  cases rz
  exact ⟨.bl t, H', I', rfl, by simpa using q⟩
/-- the special method that the class has from object, asked for -/
theorem ifBound_obj {M : Model} {A : Around} {E : Value → Shared → Prop} {s : Shared} {K : PySem.W.Frag} {x C : Addr} {ox : Obj} {od : Option Obj} {name : Str} {args : List Value} {id : String} {Q : Option Value → Shared → Prop} (inK : K.In s.heap) (I : PySem.W.InstAt s.heap x ox C od)
    (fnd : PySem.W.findIn K (.ref C) name = some (some (.builtin id))) (bnd : ∀ self, bindSpecial (.builtin id) self = pure (.builtin id, [self])) (go : wpAny M A (call (.builtin id) (.ref x :: args)) (fun v => Q (some v)) E s) : wpAny M A (callSpecialIfBound? (.ref x) name args) Q E s := by
  have spec : PySem.W.Looks M s.heap (specialOf (.ref x) name) (some (.builtin id)) := I.type.andThen (PySem.W.looks_findIn inK fnd)
  have last : wpAny M A (call (.builtin id) ([.ref x] ++ args) >>= fun v => pure (some v)) Q E s := wpAny_bind (thn go fun v s' q => wpAny_pure q)
  unfold callSpecialIfBound? bindSpecialIfBound?
  simp only [bnd]
  refine wpAny_holding (wpAny_bind (wpAny_bind (spec.here ?_)))
  refine wpAny_bind (wpAny_askSetting ?_)
  refine wpAny_ite ?_
  split
  · exact wpAny_bind (wpAny_of_eq (bnd _) (wpAny_pure last))
  · exact wpAny_tryCatch (wpAny_bind (wpAny_of_eq (bnd _) (wpAny_pure last)))
/-- object.__ne__ asks __eq__ -/
theorem obj_ne {prog : Program} {w : World} {A : Around} {E : Value → Shared → Prop} {s : Shared} {K : PySem.W.Frag} {x C f : Addr} {y : Value} {ox : Obj} {od : Option Obj} {Q : Fin → Shared → Prop} (inK : K.In s.heap) (I : PySem.W.InstAt s.heap x ox C od)
    (fnd : PySem.W.findIn K (.ref C) "__eq__" = some (some (.ref f))) (isf : PySem.W.isFn K (.ref f) = true) (un : A.units < cLine)
    (go : wpAny (model prog w) A (call (.ref f) [.ref x, y]) (fun v s' => ∃ t, v = .bool t ∧ Q (.done (.ret (.bool (!t)))) s') E s) : wpAny (model prog w) A (Builtin.«object.__ne__» ⟨[.ref x, y], []⟩) Q E s := by
  have ask : wpAny (model prog w) A (callSpecialIfBound? (.ref x) "__eq__" [y]) (fun r s' => ∃ t, r = some (.bool t) ∧ Q (.done (.ret (.bool (!t)))) s') E s :=
    PySem.W.ifBound_K inK I fnd isf (thn go fun v s' q => by
      obtain ⟨t, e, q⟩ := q
      exact ⟨t, by rw [e], q⟩)
  obtain ⟨h, g, d, t, os⟩ := s
  unfold Builtin.«object.__ne__»
  repeat (first
    | with_reducible refine wpAny_cRoomFor un ?_
    | (refine wpAny_bind (m := callSpecialIfBound? (.ref x) (Str.ofString "__eq__") [y]) (thn ask fun r s' q => ?_))
    | wp_step)
  obtain ⟨b, e, q⟩ := q
  subst e
  repeat (first | exact q | exact wpAny_pure q | exact wpAny_truthy_bool q | (refine wpAny_bind (m := truthy (.bool _)) (wpAny_truthy_bool ?_)) | wp_step)
theorem op_ownNe (O : OkAt X.prog X.w X.K X.mg X.base CX0 k f ps sp) (c : OwnCmp X.K C f) (hr : Room (k + 2) X.A) : OpR X (compareOp .NotEq) (rOwn C sp true) := by
  obtain ⟨fd, F, B, _⟩ := O.ok
  intro pns s σ H x y v u Q inv rx ry got
  obtain ⟨a, b, dx, dy, fs, gs, ex, ey, ha, hb, h⟩ := got
  subst ex ey
  cases rx
  cases ry
  obtain ⟨mA, JA, _⟩ := ins_get inv.hok ha
  obtain ⟨mB, JB, _⟩ := ins_get inv.hok hb
  obtain ⟨oa, IA, _⟩ := JA.look
  obtain ⟨ob, IB, _⟩ := JB.look
  have un : X.A.units + 1 < cLine := by have := hr.un; omega
  have un0 : X.A.units < cLine := Nat.lt_of_succ_lt un
  have rel : Vals [V.ref a, V.ref b] [Value.ref a, Value.ref b] := .cons (show RelV (V.ref a) (Value.ref a) from rfl) (.cons (show RelV (V.ref b) (Value.ref b) from rfl) .nil)
  have hr1 : Room k X.A.in1 := ((hr.mono (Nat.le_succ _)).in1)
  have go : wpAny (model X.prog X.w) X.A.in1 (call (.ref f) [.ref a, .ref b]) (fun v s' => ∃ t, v = .bool t ∧ ∃ t', Value.bool (!t) = .bool t' ∧ EP X pns σ Q (.bool (!t)) s') X.xe s :=
    thn (run_own inv.env0.frames F hr1 B pass0 inv rel h) fun w s' out => by
      obtain ⟨z, H', I', rz, t, ez, q⟩ := out
      subst ez
      have ew : w = .bool t := rz
      exact ⟨t, ew, !t, rfl, .bl (!t), H', I', rfl, by simpa using q⟩
  have isO : PySem.W.Looks (model X.prog X.w) s.heap (isInstance (.ref a) (.type "object")) true := IA.type.andThen (PySem.W.looks_mroIn inv.kIn c.ob)
  have slot : wpAny (model X.prog X.w) X.A (call (.builtin "object.__ne__") [.ref a, .ref b]) (fun v s' => ∃ t, v = .bool t ∧ EP X pns σ Q v s') X.xe s := by
    refine wpAny_call (codeAny_call_builtin PySem.F.slot_object_ne.plain PySem.F.cmpEntry_ne (PySem.W.check_slot PySem.F.cmpKind_ne PySem.F.cmpSplit_ne isO (PySem.F.cmpArgs_ne _ _) ?_))
    exact obj_ne inv.kIn IA c.eq c.fnOk un go
  have try1 : wpAny (model X.prog X.w) X.A (tryCompare (.ref a) "__ne__" (.ref b)) (fun r s' => ∃ v, r = some v ∧ EP X pns σ Q v s') X.xe s := by
    unfold tryCompare
    refine wpAny_bind (ifBound_obj inv.kIn IA c.ne (fun self => PySem.F.slot_object_ne.bind self) (thn slot fun v s' q => ?_))
    obtain ⟨t, e, q⟩ := q
    subst e
    exact wpAny_pure ⟨_, rfl, q⟩
  refine PySem.W.cmp_ofNotEq ?_
  unfold richCompare
  simp only [oneThing_ref]
  refine wpAny_holding (wpAny_bind (wpAny_cRoomFor un0 ?_))
  refine wpAny_bind (IA.type.here (wpAny_bind (IB.type.here ?_)))
  rw [show (Value.ref C != Value.ref C) = false by simp]
  simp only [Bool.false_eq_true, if_false]
  refine wpAny_bind (wpAny_pure ?_)
  simp only [Bool.false_eq_true, if_false]
  refine wpAny_bind (thn try1 fun r s' q => ?_)
  obtain ⟨v, e, q⟩ := q
  subst e
  exact wpAny_pure q
/-! ### len by an own __len__ -/
def rLenO (C : Addr) (sp : Sp) : List V → Hp → VK → Prop := fun xs H Q => ∃ a dx fs, xs = [.ref a] ∧ H a = some (.ins C dx fs) ∧ sp [.ref a] H (fun v H' => ∃ n : Int, v = .int n ∧ (0 ≤ n ∧ n < 2 ^ 63) ∧ Q (.int n) H') E0
theorem call_lenO (O : OkAt X.prog X.w X.K X.mg X.base CX0 k f ps sp) (c1 : PySem.W.findIn X.K (.ref C) "__len__" = some (some (.ref f))) (c2 : PySem.W.isFn X.K (.ref f) = true) (hr : Room (k + 1) X.A) : CallR X (.builtin "len") (rLenO C sp) := by
  obtain ⟨fd, F, B, _⟩ := O.ok
  intro pns s σ H vs us Q inv rel got
  obtain ⟨a, dx, fs, ex, ha, h⟩ := got
  subst ex
  obtain ⟨u, eu, ru⟩ := vals1 rel
  subst eu
  cases ru
  obtain ⟨mA, JA, _⟩ := ins_get inv.hok ha
  obtain ⟨oa, IA, _⟩ := JA.look
  obtain ⟨m, fr⟩ := inv.fr
  have rel : Vals [V.ref a] [Value.ref a] := .cons (show RelV (V.ref a) (Value.ref a) from rfl) .nil
  refine PySem.W.len_K fr inv.ok.mod.kin IA c1 c2 (thn (run_own inv.env0.frames F hr.in1 B pass0 inv rel h) fun w s' out => ?_)
  obtain ⟨z, H', I', rz, n, ez, hn, q⟩ := out
  subst ez
  obtain ⟨t, rz⟩ := rz
  subst rz
  exact ⟨hn, .int n, H', I'.tok _, ⟨_, rfl⟩, q⟩
end
section
variable {G : Cn} {E : XK} {ta tb : TE} {ma mb : M} {fn : Fn} {n c : Nat}
/-- what the callee hands back is seen, something else is wished for -/
theorem Post.seen {F H : Hp} {σ : L2.St} {ρ : Rho} {α : Al} {Q : VK} {d d' : D} (fl' : flatD d' = true) (fl : flatD d = true) (h : Post G E F H σ α (some (.ok (.val d'), ρ)) Q) :
    Post G E0 F H σ α (some (.ok (.val d), ρ)) (fun v H' => v = toV d ∧ Q (toV d') H') := fun v F' H' α' β S R T M N => by
  obtain ⟨e, r⟩ := R
  refine ⟨(flat_rep r fl).1, h (toV d') F' H' α' β S ⟨e, ?_⟩ T M N⟩
  cases d' <;> first | exact Rep.ofNon | exact Rep.ofBl | exact Rep.ofInt | exact Rep.ofStr | cases fl'
def mOwn (c : Nat) (fn : Fn) (neg : Bool) (a b : M) : M := fun ρ => bnd (a ρ) fun o ρ1 => bnd (b ρ1) fun o' ρ2 => match o.frz, o'.frz with
  | .ins c1 fs, .ins c2 gs => if c1 = c ∧ c2 = c then (match fn [.val (.ins c1 fs), .val (.ins c2 gs)] with
    | some (.ok (.val (.bl t)), _) => some (.ok (.val (.bl (if neg = true then !t else t))), ρ2)
    | _ => none) else none
  | _, _ => none
theorem sem_own {neg : Bool} (hl : ∀ os r, fn os = some r → os.length = n) (ha : Sem G E ta ma) (hb : Sem G E tb mb) : Sem G E (tOp (rOwn (G.cls c) (spF G fn n) neg) ta tb) (mOwn c fn neg ma mb) := ⟨fun {F H σ ρ α Q} S h =>
  ha.run S (Post.to h fun o ρ1 v F1 H1 α1 S1 r1 T1 N1 h1 => hb.run S1 (Post.to (Post.shift T1 N1 h1) fun o2 ρ2 v2 F2 H2 α2 S2 r2 T2 N2 h2 => by
    split at h2
    · rename_i c1 fs c2 gs e1 e2
      split at h2
      · rename_i hc
        obtain ⟨hc1, hc2⟩ := hc
        rw [hc1] at e1
        rw [hc2] at e2
        rw [hc1, hc2] at h2
        rw [e1] at r1
        rw [e2] at r2
        have q1 := r1.mono T2.exF
        have q2 := r2
        unfold Rep at q1 q2
        obtain ⟨a, dx, fvs, ev, x1, x2⟩ := q1
        obtain ⟨b, dy, gvs, ew, y1, y2⟩ := q2
        refine ⟨a, b, dx, dy, fvs, gvs, ev, ew, S2.ex.x x1, S2.ex.x y1, ?_⟩
        split at h2
        · rename_i t os' ef
          refine spF_data (ρ1 := ρ2) (.inl rfl) hl S2 (Reps.cons (r1.mono T2.exF) (Reps.one r2)) ?_
          unfold onData
          rw [show ([D.ins c fs, D.ins c gs].map O.val) = [.val (.ins c fs), .val (.ins c gs)] from rfl, ef]
          refine PostG.shift .refl .refl (Post.seen (d := .bl t) rfl rfl (Post.shift T2 N2 h2)) fun o ρ' z => ?_
          intro v F' H' α' β S' R T M N
          obtain ⟨e, q⟩ := z v F' H' α' β S' R T M N
          exact ⟨t, e, q⟩
        · exact h2.elim
      · exact h2.elim
    · exact h2.elim))⟩
def mLenO (c : Nat) (fn : Fn) (a : M) : M := fun ρ => bnd (a ρ) fun o ρ1 => match o.frz with
  | .ins c1 fs => if c1 = c then (match fn [.val (.ins c1 fs)] with
    | some (.ok (.val (.int n)), _) => if 0 ≤ n ∧ n < 2 ^ 63 then some (.ok (.val (.int n)), ρ1) else none
    | _ => none) else none
  | _ => none
theorem sem_lenO (hl : ∀ os r, fn os = some r → os.length = n) (ha : Sem G E ta ma) : Sem G E (tCB (rLenO (G.cls c) (spF G fn n)) (tCons ta tNil)) (mLenO c fn ma) := ⟨fun {F H σ ρ α Q} S h =>
  ha.run S (Post.to h fun o ρ1 v F1 H1 α1 S1 r1 T1 N1 h1 => by
    split at h1
    · rename_i c1 fs e1
      split at h1
      · rename_i hc
        rw [hc] at e1 h1
        rw [e1] at r1
        have q1 := r1
        unfold Rep at q1
        obtain ⟨a, dx, fvs, ev, x1, x2⟩ := q1
        subst ev
        refine ⟨a, dx, fvs, rfl, S1.ex.x x1, ?_⟩
        split at h1
        · rename_i k os' ef
          split at h1
          · rename_i hn
            refine spF_data (ρ1 := ρ1) (.inl rfl) hl S1 (Reps.one r1) ?_
            unfold onData
            rw [show ([D.ins c fs].map O.val) = [.val (.ins c fs)] from rfl, ef]
            refine PostG.shift .refl .refl (Post.seen (d := .int k) rfl rfl (Post.shift T1 N1 h1)) fun o ρ' z => ?_
            intro v F' H' α' β S' R T M N
            obtain ⟨e, q⟩ := z v F' H' α' β S' R T M N
            exact ⟨k, e, hn, q⟩
          · exact h1.elim
        · exact h1.elim
      · exact h1.elim
    · exact h1.elim)⟩
end
end VL

namespace VL
open PySem PySem.Spec
open PyProof.Rows L2
open Evl (Ex sz_of)

/-! ### // by a great divisor -/
def bDivW (i j : Int) : Bool := decide (0 < j) && decide (j.natAbs.log2 < 9000)
theorem os_divW {G : Cn} : OSem G (rI CDivW fun i j => .int (i / j)) (fIntC bDivW fun i j => i / j) := os_intC fun i j h => by
  unfold bDivW at h
  rw [Bool.and_eq_true, decide_eq_true_eq, decide_eq_true_eq] at h
  exact h

/-! ### a, b, c = x, y, z -/
def sPar3 (i j l : Nat) (a : MA) : MS := fun pins ρ => bnd (a ρ) fun ais ρ1 => match dsOnly ais with
  | some [x, y, z] => (setV pins i (.val x) ρ1).bind fun ρ2 => (setV pins j (.val y) ρ2).bind fun ρ3 => (setV pins l (.val z) ρ3).map fun ρ4 => (.ok .nx, ρ4)
  | _ => none
section
variable {G : Cn} {E : XK} {F F1 H H1 : Hp} {σ : L2.St} {ρ ρ1 : Rho} {α α1 : Al}
theorem semS_par3 {i j l : Nat} {ta : TA} {ma : MA} (ha : SemA G E ta ma) : SemS G E (tPar3 i j l ta) (sPar3 i j l ma) := ⟨fun {F H σ ρ α D pins} S h =>
  ha.run S (PostA.to h fun xs ρ1 vs F1 H1 α1 S1 r1 T1 N1 h1 => by
    split at h1
    · rename_i x y z e
      have q := dsOnly_r r1 e
      obtain ⟨v, r, rfl, rx, q⟩ := q.of_cons
      obtain ⟨u, r, rfl, ry, q⟩ := q.of_cons
      obtain ⟨w, r, rfl, rz, q⟩ := q.of_cons
      obtain rfl := q.of_nil
      cases e1 : setV pins i (.val x) ρ1 with
      | none => rw [e1] at h1; exact h1.elim
      | some ρ2 =>
        rw [e1] at h1
        try dsimp only [Option.bind] at h1
        cases e2 : setV pins j (.val y) ρ2 with
        | none => rw [e2] at h1; exact h1.elim
        | some ρ3 =>
          rw [e2] at h1
          try dsimp only [Option.bind] at h1
          cases e3 : setV pins l (.val z) ρ3 with
          | none => rw [e3] at h1; exact h1.elim
          | some ρ4 =>
            rw [e3] at h1
            obtain ⟨n1, l1, rfl⟩ := setV_some e1
            obtain ⟨n2, l2, rfl⟩ := setV_some e2
            obtain ⟨n3, l3, rfl⟩ := setV_some e3
            refine ⟨v, u, w, rfl, ?_⟩
            refine h1 _ F1 H1 _ (((S1.setD rx l1).setD ry l2).setD rz l3) T1 (fun a q => ?_) (((Pin.set n1).trans (Pin.set n2)).trans (Pin.set n3))
            rcases Al.own_set q with q | q
            · rcases Al.own_set q with q | q
              · rcases Al.own_set q with q | q
                · exact N1 a q
                · cases q
              · cases q
            · cases q
    · exact h1.elim)⟩

/-! ### a, b = x, y: what y makes is kept as one's own -/
def sParO (i j : Nat) (a b : M) : MS := fun pins ρ => bnd (a ρ) fun x ρ1 => bnd (b ρ1) fun y ρ2 => (setV pins i (.val x.frz) ρ2).bind fun ρ3 => (setV pins j y ρ3).map fun ρ4 => (.ok .nx, ρ4)
theorem semS_parO {i j : Nat} {ta tb : TE} {ma mb : M} (ha : Sem G E ta ma) (hb : Sem G E tb mb) : SemS G E (tPar i j (tCons ta (tCons tb tNil))) (sParO i j ma mb) := ⟨fun {F H σ ρ α D pins} S h =>
  ha.run S (Post.to h fun o ρ1 v F1 H1 α1 S1 r1 T1 N1 h1 => hb.run S1 (PostG.bind (PostS.shift T1 N1 .refl h1) fun y ρ2 hp u F2 H2 α2 β S2 r2 T2 M2 N2 => by
    cases e1 : setV pins i (.val o.frz) ρ2 with
    | none => rw [e1] at hp; exact hp.elim
    | some ρ3 =>
      rw [e1] at hp
      try dsimp only [Option.bind] at hp
      cases e2 : setV pins j y ρ3 with
      | none => rw [e2] at hp; exact hp.elim
      | some ρ4 =>
        rw [e2] at hp
        obtain ⟨n1, l1, rfl⟩ := setV_some e1
        obtain ⟨n2, l2, rfl⟩ := setV_some e2
        refine ⟨v, u, rfl, ?_⟩
        have S3 := S2.setD (r1.mono T2.exF) l1
        have S4 := S3.store r2 (fun k _ a ha z => M2 a ha (by
          rcases Al.own_set ⟨k, z⟩ with q | q
          · exact q
          · cases q)) l2
        refine hp _ F2 H2 _ S4 T2 (fun a q => ?_) ((Pin.set n1).trans (Pin.set n2))
        rcases Al.own_set q with q | q
        · rcases Al.own_set q with q | q
          · exact N2 a (.inl q)
          · cases q
        · exact N2 a (.inr q)))⟩

/-! ### a list that is nobody's is changed: e.append(x), e.clear() -/
def mAppT (a b : M) : M := fun ρ => bnd (a ρ) fun o ρ1 => match o with
  | .lst ds => if ds.length < 100000 then bnd (b ρ1) fun _ ρ2 => some (.ok (.val .non), ρ2) else none
  | _ => none
def mClrT (a : M) : M := fun ρ => bnd (a ρ) fun o ρ1 => match o with
  | .lst _ => some (.ok (.val .non), ρ1)
  | _ => none
theorem sem_clrT {ta : TE} {ma : M} (ha : Sem G E ta ma) : Sem G E (tBM0 G.K "list" rClear ta) (mClrT ma) := ⟨fun {F H σ ρ α Q} S h =>
  ha.run S (PostG.bind h fun o ρ1 hp v F1 H1 α1 β S1 r1 T1 M1 N1 => by
    match o, hp, r1 with
    | .lst ds, hp, r1 =>
      obtain ⟨p, vs, rfl, rfl, f1, h1, rs⟩ := r1
      have no : ¬ Own α1 p := M1 p (by simp)
      refine ⟨.inl ⟨rfl, vs, SqL.of h1⟩, p, vs, rfl, rfl, h1, ?_⟩
      refine hp .non F1 _ α1 [] (S1.poke f1 no) ⟨rfl, Rep.ofNon⟩ ⟨T1.exF, fun b w e n => ?_, T1.newF⟩ (fun _ z => nomatch z) fun a z => ?_
      · by_cases q : b = p
        · subst q
          rcases N1 b (.inr (by simp)) with z | z
          · exact absurd z n
          · rw [e] at z; cases z
        · rw [upd_ne q]
          exact T1.keep b w e n
      · rcases z with z | z
        · exact N1 a (.inl z)
        · cases z)⟩
theorem sem_appT {ta tb : TE} {ma mb : M} (ha : Sem G E ta ma) (hb : Sem G E tb mb) : Sem G E (tBM G.K "list" rAppend ta (tCons tb tNil)) (mAppT ma mb) := ⟨fun {F H σ ρ α Q} S h =>
  ha.run S (PostG.bind h fun o ρ1 hp v F1 H1 α1 β S1 r1 T1 M1 N1 => by
    match o, hp, r1 with
    | .lst ds, hp, r1 =>
      obtain ⟨p, vs, rfl, rfl, f1, h1, rs⟩ := r1
      have no : ¬ Own α1 p := M1 p (by simp)
      have hp' : PostG G E F H α (okV G F H σ α Q) (if ds.length < 100000 then bnd (mb ρ1) fun _ ρ2 => some (.ok (.val .non), ρ2) else none) := hp
      by_cases hl : ds.length < 100000
      · rw [if_pos hl] at hp'
        refine ⟨.inl ⟨rfl, vs, SqL.of h1⟩, ?_⟩
        have T0 : Stp (Own α) F H F1 H1 := T1
        have N0 : New (Own α) H (Own α1) := fun a z => N1 a (.inl z)
        refine hb.run S1 (Post.to (PostG.shift T0 N0 hp' fun _ _ q => q) fun o2 ρ2 w F2 H2 α2 S2 r2 T2 N2 h2 => ?_)
        have h2p : H2 p = some (.lst vs) := T2.kept h1 no (.inr rfl)
        have f2 : F2 p = none := by
          cases e : F2 p with
          | none => rfl
          | some y =>
            rcases T2.newF p y e with z | z | z
            · rw [f1] at z; cases z
            · rw [h1] at z; cases z
            · exact absurd z no
        have no2 : ¬ Own α2 p := fun z => by
          rcases N2 p z with q | q
          · exact no q
          · rw [h1] at q; cases q
        refine ⟨p, vs, w, rfl, rfl, h2p, Nat.lt_of_lt_of_le (by rw [rs.length]; exact hl) (by decide), ?_⟩
        have T3 := T1.trans T2 N0
        refine h2 .non F2 _ α2 [] (S2.poke f2 no2) ⟨rfl, Rep.ofNon⟩ ⟨T3.exF, fun b y e n => ?_, T3.newF⟩ (fun _ z => nomatch z) fun a z => ?_
        · by_cases q : b = p
          · subst q
            rcases N1 b (.inr (by simp)) with z | z
            · exact absurd z n
            · rw [e] at z; cases z
          · rw [upd_ne q]
            exact T3.keep b y e n
        · rcases z with z | z
          · exact New.trans T0 N0 N2 a z
          · cases z
      · rw [if_neg hl] at hp'
        exact hp'.elim)⟩
end
end VL

namespace VL
open PySem PySem.Spec
open PyProof.Rows L2
open Evl (Ex sz_of)

/-! ### a list of lists, all of them one's own -/
section
variable {G : Cn} {E : XK} {F F1 H H1 : Hp} {σ : L2.St} {ρ ρ1 : Rho} {α α1 : Al}
theorem RepLL.len : ∀ {bs : List Addr} {dss : List (List D)}, RepLL G F H bs dss → bs.length = dss.length
  | _, [], h => by
    unfold RepLL at h
    subst h
    rfl
  | _, ds :: dss, h => by
    unfold RepLL at h
    obtain ⟨b, r, vs, rfl, _, _, _, t⟩ := h
    rw [List.length_cons, List.length_cons, RepLL.len t]
theorem RepLL.at_ : ∀ {bs : List Addr} {dss : List (List D)} {k : Nat} {ds : List D}, RepLL G F H bs dss → dss[k]? = some ds → ∃ b vs, bs[k]? = some b ∧ F b = none ∧ H b = some (.lst vs) ∧ Reps G F vs ds
  | _, [], k, ds, _, e => by simp at e
  | _, d :: dss, k, ds, h, e => by
    unfold RepLL at h
    obtain ⟨b, r, vs, rfl, e1, e2, e3, t⟩ := h
    cases k with
    | zero =>
      cases e
      exact ⟨b, vs, rfl, e1, e2, e3⟩
    | succ k =>
      obtain ⟨b', vs', g1, g2⟩ := RepLL.at_ (k := k) t (show dss[k]? = some ds from by simpa using e)
      exact ⟨b', vs', by simpa using g1, g2⟩
theorem RepLL.put : ∀ {bs : List Addr} {dss : List (List D)} {k : Nat} {b : Addr} {ds' : List D} {vs' : List V}, RepLL G F H bs dss → bs.Nodup → bs[k]? = some b → Reps G F vs' ds' → RepLL G F (upd H b (.lst vs')) bs (dss.set k ds')
  | _, [], k, b, ds', vs', h, _, e, _ => by
    unfold RepLL at h
    subst h
    simp at e
  | _, d :: dss, k, b, ds', vs', h, nd, e, r' => by
    unfold RepLL at h
    obtain ⟨c, r, vs, rfl, e1, e2, e3, t⟩ := h
    obtain ⟨nc, nd'⟩ := List.nodup_cons.mp nd
    cases k with
    | zero =>
      obtain rfl : c = b := by simpa using e
      rw [List.set_cons_zero]
      unfold RepLL
      refine ⟨c, r, vs', rfl, e1, upd_same, r', t.move (Ex.refl F) (fun a ha => (t.mem a ha).1) fun a ha o ho => ?_⟩
      rw [upd_ne fun z => nc (by rw [← z]; exact ha)]
      exact ho
    | succ k =>
      have e' : r[k]? = some b := by simpa using e
      have hb : b ∈ r := List.mem_of_getElem? e'
      rw [List.set_cons_succ]
      unfold RepLL
      refine ⟨c, r, vs, rfl, e1, ?_, e3, RepLL.put t nd' e' r'⟩
      rw [upd_ne fun z => nc (by rw [z]; exact hb)]
      exact e2
theorem RepLL.snoc : ∀ {bs : List Addr} {dss : List (List D)} {b : Addr} {ds : List D} {vs : List V}, RepLL G F H bs dss → F b = none → H b = some (.lst vs) → Reps G F vs ds → RepLL G F H (bs ++ [b]) (dss ++ [ds])
  | _, [], b, ds, vs, h, e1, e2, e3 => by
    unfold RepLL at h
    subst h
    show RepLL G F H [b] [ds]
    unfold RepLL
    exact ⟨b, [], vs, rfl, e1, e2, e3, by unfold RepLL; rfl⟩
  | _, d :: dss, b, ds, vs, h, e1, e2, e3 => by
    unfold RepLL at h
    obtain ⟨c, r, ws, rfl, f1, f2, f3, t⟩ := h
    show RepLL G F H (c :: (r ++ [b])) (d :: (dss ++ [ds]))
    unfold RepLL
    exact ⟨c, r ++ [b], ws, rfl, f1, f2, f3, RepLL.snoc t e1 e2 e3⟩
/-- len(xs[i]), xs such a list -/
def mLenLL (i : Nat) (a : M) : M := fun ρ => match ρ[i]? with
  | some (some (.ll _)) => bnd (a ρ) fun o ρ1 => (match ρ1[i]?, o.frz with
    | some (some (.ll dss)), .int k => (atI dss k).map fun ds => (.ok (.val (.int ds.length)), ρ1)
    | _, _ => none)
  | _ => none
theorem Ste.slotLL {i : Nat} {dss : List (List D)} (S : Ste G F H σ ρ α) (h : ρ[i]? = some (some (.ll dss))) : ∃ a bs, σ[i]? = some (some (.ref a)) ∧ α i = a :: bs ∧ (a :: bs).Nodup ∧ F a = none ∧ H a = some (.lst (bs.map V.ref)) ∧ RepLL G F H bs dss := by
  obtain ⟨v, h1, r⟩ := S.slot i _ h
  obtain ⟨a, bs, rfl, e1, nd, e2, e3, e4⟩ := r
  exact ⟨a, bs, h1, e1, nd, e2, e3, e4⟩
theorem ll_at {bs : List Addr} {dss : List (List D)} {k : Int} {ds : List D} (r : RepLL G F H bs dss) (e : atI dss k = some ds) : ∃ (j : Nat) (b : Addr) (vs : List V), dss[j]? = some ds ∧ bs[j]? = some b ∧ atI (bs.map V.ref) k = some (.ref b) ∧ F b = none ∧ H b = some (.lst vs) ∧ Reps G F vs ds := by
  unfold atI at e ⊢
  rw [List.length_map, r.len]
  cases q : ixN dss.length k with
  | none => rw [q] at e; cases e
  | some j =>
    rw [q] at e
    have e' : dss[j]? = some ds := e
    obtain ⟨b, vs, h1, h2, h3, h4⟩ := r.at_ e'
    refine ⟨j, b, vs, e', h1, ?_, h2, h3, h4⟩
    show (bs.map V.ref)[j]? = _
    rw [List.getElem?_map, h1] <;> rfl
theorem sem_lenLL {i : Nat} {ta : TE} {ma : M} {r : List V → Hp → VK → Prop} {f : List D → Option O} (hr : CSem G r f) (hf : ∀ ds : List D, f [.lst ds] = some (.val (.int ds.length))) (ha : Sem G E ta ma) : Sem G E (tCB r (tCons (tOp (rIxA G.K) (tVar i) ta) tNil)) (mLenLL i ma) := ⟨fun {F H σ ρ α Q} S h => by
  unfold mLenLL at h
  split at h
  · rename_i dss0 e0
    obtain ⟨a, bs0, hv, _⟩ := S.slotLL e0
    refine ⟨.ref a, hv, ha.run S (Post.to h fun o ρ1 v F1 H1 α1 S1 r1 T1 N1 h1 => ?_)⟩
    split at h1
    · rename_i dss k e1 ek
      rw [ek] at r1
      obtain rfl : v = .int k := by unfold Rep at r1; exact r1
      obtain ⟨a', bs, hv', ha', nd, hf', hh, rl⟩ := S1.slotLL e1
      rw [hv] at hv'
      cases hv'
      cases q : atI dss k with
      | none => rw [q] at h1; exact h1.elim
      | some ds =>
        rw [q] at h1
        obtain ⟨j, b, vs, e2, e3, e4, e5, e6, e7⟩ := ll_at rl q
        refine .inl (.inl ⟨a, bs.map V.ref, k, .ref b, rfl, rfl, SqL.of hh, e4, ?_⟩)
        refine hr (E := E) S1 (ds := [.lst ds]) ⟨.ref b, [], rfl, .inr (.inl ⟨ds, b, vs, rfl, rfl, e6, e7⟩), rfl⟩ ?_
        rw [hf]
        exact Post.shift T1 N1 h1
    · exact h1.elim
  · exact h.elim⟩
/-- xs[i].append(name) -/
def mAppLL (i : Nat) (a : M) (j : Nat) : M := fun ρ => match ρ[i]? with
  | some (some (.ll _)) => bnd (a ρ) fun o ρ1 => (match ρ1[i]?, o.frz, ρ1[j]? with
    | some (some (.ll dss)), .int k, some (some (.val d)) => (match ixN dss.length k with
      | some m => (match dss[m]? with
        | some ds => if ds.length < 100000 then some (.ok (.val .non), ρ1.set i (some (.ll (dss.set m (ds ++ [d]))))) else none
        | none => none)
      | none => none)
    | _, _, _ => none)
  | _ => none
theorem sem_appLL {i j : Nat} {ta : TE} {ma : M} (ha : Sem G E ta ma) : Sem G E (tBM G.K "list" rAppend (tOp (rIxA G.K) (tVar i) ta) (tCons (tVar j) tNil)) (mAppLL i ma j) := ⟨fun {F H σ ρ α Q} S h => by
  unfold mAppLL at h
  split at h
  · rename_i dss0 e0
    obtain ⟨a, bs0, hv, _⟩ := S.slotLL e0
    refine ⟨.ref a, hv, ha.run S (Post.to h fun o ρ1 v F1 H1 α1 S1 r1 T1 N1 h1 => ?_)⟩
    split at h1
    · rename_i dss k d e1 ek ej
      rw [ek] at r1
      obtain rfl : v = .int k := by unfold Rep at r1; exact r1
      obtain ⟨a', bs, hv', ha', nd, hf', hh, rl⟩ := S1.slotLL e1
      rw [hv] at hv'
      cases hv'
      obtain ⟨w, hw, rw'⟩ := S1.slot j _ ej
      split at h1
      · rename_i m em
        split at h1
        · rename_i ds ed
          split at h1
          · rename_i hl
            have q : atI dss k = some ds := by unfold atI; rw [em]; exact ed
            obtain ⟨b, vs, e3, e5, e6, e7⟩ := rl.at_ ed
            have e4 : atI (bs.map V.ref) k = some (.ref b) := by
              unfold atI
              rw [List.length_map, rl.len, em]
              show (bs.map V.ref)[m]? = _
              rw [List.getElem?_map, e3] <;> rfl
            refine .inl (.inl ⟨a, bs.map V.ref, k, .ref b, rfl, rfl, SqL.of hh, e4, .inl ⟨rfl, vs, SqL.of e6⟩, w, hw, b, vs, w, rfl, rfl, e6, Nat.lt_of_lt_of_le (by rw [e7.length]; exact hl) (by decide), ?_⟩)
            have hb : b ∈ bs := List.mem_of_getElem? e3
            have ib : b ∈ α1 i := by rw [ha']; exact List.mem_cons_of_mem _ hb
            obtain ⟨na, nd'⟩ := List.nodup_cons.mp nd
            have S2 : Ste G F1 (upd H1 b (.lst (vs ++ [w]))) σ (ρ1.set i (some (.ll (dss.set m (ds ++ [d]))))) α1 := S1.write e1 ib fun u hu q => by
              obtain ⟨a2, bs2, rfl, g1, g2, g3, g4, g5⟩ := q
              rw [ha'] at g1
              obtain ⟨rfl, rfl⟩ := List.cons.inj g1
              refine ⟨a, bs, rfl, ha', nd, hf', ?_, rl.put nd' e3 (e7.append (Reps.one rw'.2))⟩
              rw [upd_ne fun z => na (by rw [z]; exact hb)]
              exact hh
            exact Post.shift T1 N1 h1 .non F1 _ α1 [] S2 ⟨rfl, Rep.ofNon⟩ (Stp.write ⟨i, ib⟩) (fun _ z => nomatch z) fun c z => by
              rcases z with z | z
              · exact .inl z
              · cases z
          · exact h1.elim
        · exact h1.elim
      · exact h1.elim
    · exact h1.elim
  · exact h.elim⟩
end
end VL

namespace VL
open PySem PySem.Spec
open PyProof.Rows L2
open Evl (Ex sz_of)
/-! ### [[] for x in xs]: a list of new lists -/
def lcLoopE (vs : List Nat) (p : Pat) : List D → Rho → Nat → Option (Res × Rho)
  | [], ρ, n => some (.ok (.ll (List.replicate n [])), ρ)
  | d :: ds, ρ, n => match bindP [] p d ρ with
    | none => none
    | some ρ1 => lcLoopE vs p ds (wipeR ρ1 vs) (n + 1)
def mLcE (mi : MI) (vs : List Nat) (p : Pat) : M := fun ρ => match mi ρ with
  | some (ds, ρ1) => if clean vs ρ1 = true ∧ ds.length ≤ 100000 then lcLoopE vs p ds ρ1 0 else none
  | none => none
section
variable {G : Cn} {E E1 E2 : XK} {F F1 F2 H H1 H2 : Hp} {σ σ1 : L2.St} {ρ ρ1 : Rho} {α α1 : Al}
variable {wi : TI} {mi : MI} {g : TG} {p : Pat}
structure PendE (G : Cn) (F H : Hp) (α : Al) (Dl : Addr) (bs : List Addr) : Prop where
  nd : (Dl :: bs).Nodup
  fF : F Dl = none
  at' : H Dl = some (.lst (bs.map V.ref))
  ll : RepLL G F H bs (List.replicate bs.length [])
  no : ∀ a ∈ Dl :: bs, ¬ Own α a
theorem PendE.inH {Dl : Addr} {bs : List Addr} (q : PendE G F H α Dl bs) : ∀ a ∈ Dl :: bs, F a = none ∧ ∃ o, H a = some o := fun a ha => by
  rcases List.mem_cons.mp ha with rfl | ha
  · exact ⟨q.fF, _, q.at'⟩
  · exact q.ll.mem a ha
theorem PendE.step {Dl : Addr} {bs : List Addr} (q : PendE G F H α Dl bs) (T : Stp (Own α) F H F1 H1) (N : New (Own α) H (Own α1)) : PendE G F1 H1 α1 Dl bs := by
  have keepF : ∀ a ∈ Dl :: bs, F1 a = none := fun a ha => by
    obtain ⟨h1, o, h2⟩ := q.inH a ha
    cases e : F1 a with
    | none => rfl
    | some u =>
      rcases T.newF a u e with z | z | z
      · rw [h1] at z; cases z
      · rw [h2] at z; cases z
      · exact absurd z (q.no a ha)
  refine ⟨q.nd, keepF Dl List.mem_cons_self, T.kept q.at' (q.no Dl List.mem_cons_self) (.inr rfl), q.ll.move T.exF (fun b hb => keepF b (List.mem_cons_of_mem _ hb)) fun b hb o ho => T.kept ho (q.no b (List.mem_cons_of_mem _ hb)) (.inl (q.inH b (List.mem_cons_of_mem _ hb)).1), fun a ha z => ?_⟩
  obtain ⟨h1, o, h2⟩ := q.inH a ha
  rcases N a z with y | y
  · exact q.no a ha y
  · rw [h2] at y; cases y
theorem sem_lcE {vs : List Nat} (hi : SemI G wi mi) (hg : GSem G g p) (hp : ∀ j ∈ p.slots, j ∈ vs) : Sem G E (tLc wi g tYes (tLst tNil) vs) (mLcE mi vs p) := ⟨fun {F H σ ρ α Q} S h => by
  unfold mLcE at h
  cases e : mi ρ with
  | none => rw [e] at h; exact h.elim
  | some x =>
    obtain ⟨ds, ρ1⟩ := x
    rw [e] at h
    try dsimp only at h
    split at h
    · rename_i hc
      obtain ⟨hcl, hlen⟩ := hc
      refine hi.run S e fun J F1 H1 α1 S1 T1 N1 it => ?_
      intro Dl hD
      have S1' : Ste G F1 (upd H1 Dl (.lst [])) (L2.wipe σ vs) ρ1 α1 := (S1.put hD).wiped fun j hj o q => by
        rw [clean_mem hcl hj] at q
        cases q
      have T1' : Stp (Own α) F H F1 (upd H1 Dl (.lst [])) := T1.trans (Ste.putStp hD (A := Own α1)) N1
      let A : Al → List Addr → Addr → Prop := fun β bs a => Own β a ∨ a ∈ Dl :: bs
      have wk : ∀ {β : Al} {bs : List Addr} {Fa Ha Fb Hb : Hp}, Stp (Own β) Fa Ha Fb Hb → Stp (A β bs) Fa Ha Fb Hb := fun s => s.weak fun a z => .inl z
      refine ⟨fun i m H' => m = ds.length - i ∧ i ≤ ds.length ∧ ∃ F' ρ' α' bs, Ste G F' H' (L2.wipe σ vs) ρ' α' ∧ PendE G F' H' α' Dl bs ∧ bs.length = i ∧ Ex F1 F' ∧ Stp (A α1 []) F1 (upd H1 Dl (.lst [])) F' H' ∧ New (A α1 []) (upd H1 Dl (.lst [])) (A α' bs) ∧
          PostG G E F H α (okV G F H σ α Q) (lcLoopE vs p (ds.drop i) ρ' i),
        ⟨ds.length, by simp, Nat.zero_le _, F1, ρ1, α1, [], S1', ⟨by simp, S1.fresh hD, upd_same, by show RepLL G F1 _ [] []; unfold RepLL; rfl, fun a ha => by
          have : a = Dl := by simpa using ha
          subst this
          exact S1.notown hD⟩, rfl, Ex.refl F1, .refl, .refl, h⟩, ?_⟩
      rintro i m H' ⟨rfl, hi', F', ρ', α', bs, S', q', la, e1, T', N', h'⟩
      have z1 : Kpz H1 H' := (Kpz.of (Ex.new hD)).trans (T'.kpzA fun a od u e z => z.elim (S1'.nofrz a od u e) fun y => by
        have : a = Dl := by simpa using y
        rw [this, upd_same] at e
        cases e)
      obtain ⟨i1, i2, i3⟩ := it i e1 S'.ex z1
      by_cases hlt : i < ds.length
      · refine .inr ⟨i1 hlt, _, fun H2 n2 => ⟨ds.length - (i + 1), by omega, n2⟩, fun x H'' y => ?_⟩
        obtain ⟨d, hd⟩ : ∃ d, ds[i]? = some d := ⟨ds[i], by simp [hlt]⟩
        obtain ⟨F'', f1, f2, f3, f4, rx⟩ := i3 x H'' d hd y
        have S2 := S'.grow f1 (kpt f2) f3 f4
        have G2 : Stp (Own α') F' H' F'' H'' := Stp.grow f1 (kpt f2) f3
        have q2 := q'.step G2 (α1 := α') .refl
        rw [drop_get hd] at h'
        unfold lcLoopE at h'
        cases e2 : bindP [] p d ρ' with
        | none => rw [e2] at h'; exact h'.elim
        | some ρ2 =>
          rw [e2] at h'
          try dsimp only at h'
          refine hg (pins := []) S2 rx e2 fun σ2 α2 S3 o3 _ J3 => ?_
          have q3 : PendE G F'' H'' α2 Dl bs := ⟨q2.nd, q2.fF, q2.at', q2.ll, fun a ha z => q2.no a ha (o3 _ z)⟩
          have hw : L2.wipe σ2 vs = L2.wipe σ vs := (wipe_same J3.2 fun j hj => J3.1 j fun z => hj (hp j z)).trans (wipe_same (wipe_length σ vs) fun j hj => wipe_out hj)
          have T3 : Stp (A α1 []) F1 (upd H1 Dl (.lst [])) F'' H'' := T'.trans (wk G2) N'
          have N3 : New (A α1 []) (upd H1 Dl (.lst [])) (A α2 bs) := fun a z => N' a (z.elim (fun y => .inl (o3 a y)) .inr)
          have e3 : Ex F1 F'' := e1.trans f1
          refine ⟨hw, ?_⟩
          refine ⟨by decide, fun b hb => ?_⟩
          have nb : b ∉ Dl :: bs := fun z => by
            obtain ⟨_, o, ho⟩ := q3.inH b z
            rw [hb] at ho; cases ho
          have ob : ¬ Own α2 b := S3.notown hb
          have S4 := S3.put hb (o := .lst [])
          have nDl : Dl ≠ b := fun z => nb (by rw [← z]; exact List.mem_cons_self)
          refine ⟨bs.map V.ref, by rw [upd_ne nDl]; exact q3.at', by rw [List.length_map, la]; exact Nat.lt_of_lt_of_le (Nat.lt_of_lt_of_le hlt hlen) (by decide), ?_⟩
          have fb : F'' b = none := S3.fresh hb
          have S5 : Ste G F'' (upd (upd H'' b (.lst [])) Dl (.lst (bs.map V.ref ++ [.ref b]))) σ2 ρ2 α2 := S4.poke q3.fF (q3.no Dl List.mem_cons_self)
          obtain ⟨α9, S9, o9⟩ := S5.wipe vs
          obtain ⟨nd1, nd2⟩ := List.nodup_cons.mp q3.nd
          have q9 : PendE G F'' (upd (upd H'' b (.lst [])) Dl (.lst (bs.map V.ref ++ [.ref b]))) α9 Dl (bs ++ [b]) := by
            refine ⟨?_, q3.fF, by rw [upd_same, List.map_append] <;> rfl, ?_, fun a ha z => ?_⟩
            · refine List.nodup_cons.mpr ⟨fun z => ?_, ?_⟩
              · rcases List.mem_append.mp z with z | z
                · exact nd1 z
                · exact nDl (by simpa using z)
              · refine List.nodup_append.mpr ⟨nd2, by simp, fun x hx y hy => ?_⟩
                have : y = b := by simpa using hy
                subst this
                exact fun z => nb (by rw [← z]; exact List.mem_cons_of_mem _ hx)
            · have e7 : List.replicate (bs ++ [b]).length ([] : List D) = List.replicate bs.length [] ++ [[]] := by
                rw [List.length_append]
                exact List.replicate_succ'
              rw [e7]
              refine RepLL.snoc (vs := []) (q3.ll.move (Ex.refl F'') (fun c hc => (q3.ll.mem c hc).1) fun c hc o ho => ?_) fb (by rw [upd_ne (Ne.symm nDl), upd_same]) Reps.nil
              rw [upd_ne fun z => nd1 (by rw [← z]; exact hc), upd_ne fun z => nb (by rw [← z]; exact List.mem_cons_of_mem _ hc)]
              exact ho
            · rcases List.mem_cons.mp ha with rfl | ha
              · exact q3.no _ List.mem_cons_self (o9 _ z)
              · rcases List.mem_append.mp ha with ha | ha
                · exact q3.no a (List.mem_cons_of_mem _ ha) (o9 _ z)
                · have : a = b := by simpa using ha
                  subst this
                  exact ob (o9 _ z)
          have T10 : Stp (A α2 bs) F'' H'' F'' (upd (upd H'' b (.lst [])) Dl (.lst (bs.map V.ref ++ [.ref b]))) := ⟨Ex.refl F'', fun c u hc n => by
            rw [upd_ne fun z => n (.inr (by rw [z]; exact List.mem_cons_self)), upd_ne (ne_of_none hc hb)]
            exact .inl hc, fun c u hc => .inl hc⟩
          refine ⟨rfl, hlt, F'', wipeR ρ2 vs, α9, bs ++ [b], S9.resig hw, q9, by rw [List.length_append, la] <;> rfl, e3, T3.trans T10 N3, ?_, h'⟩
          have nw : New (A α2 bs) H'' (A α9 (bs ++ [b])) := fun a z => by
            rcases z with z | z
            · exact .inl (.inl (o9 a z))
            · rcases List.mem_cons.mp z with rfl | z
              · exact .inl (.inr List.mem_cons_self)
              · rcases List.mem_append.mp z with z | z
                · exact .inl (.inr (List.mem_cons_of_mem _ z))
                · have : a = b := by simpa using z
                  subst this
                  exact .inr hb
          exact New.trans T3 N3 nw
      · refine .inl ⟨i2 (by omega), ?_⟩
        have ei : i = ds.length := by omega
        rw [List.drop_of_length_le (by omega)] at h'
        have nD : Own α Dl ∨ H Dl = none := by
          by_cases z : Own α Dl
          · exact .inl z
          · cases e5 : H Dl with
            | none => exact .inr rfl
            | some u =>
              obtain ⟨u', k⟩ := T1.there e5 z
              rw [k] at hD
              cases hD
        have nA : New (Own α) H (A α1 []) := fun a z => z.elim (fun y => N1 a y) fun y => by
          have : a = Dl := by simpa using y
          subst this
          exact nD
        have rl := q'.ll
        rw [la] at rl
        refine h' (.ref Dl) F' H' α' (Dl :: bs) S'.unwiped ⟨Dl, bs, rfl, rfl, q'.nd, q'.fF, q'.at', rl⟩ (T1'.trans T' nA) q'.no fun a z => ?_
        exact New.trans T1' nA N' a z
    · exact h.elim⟩
end
end VL

namespace VL
open PySem PySem.Spec
open PyProof.Rows L2
open Evl (Ex sz_of)
/-! ### o[i] by an own __getitem__ -/
structure OwnGet (K : PySem.W.Frag) (C f : Addr) : Prop where
  at_ : PySem.W.findIn K (.ref C) "__getitem__" = some (some (.ref f))
  isF : PySem.W.fnIn K f = true
  call : PySem.W.isFn K (.ref f) = true
/-- the instance and the index, what the def makes of them -/
def rGetO (C : Addr) (sp : Sp) (E : XK) : R2 := fun x y H Q => ∃ o dx fs, x = .ref o ∧ H o = some (.ins C dx fs) ∧ sp [x, y] H Q E
section
variable {X : Cx} {CX : CXT} {E : XK} {k : Nat} {f C : Addr} {ps : List Str} {sp : Sp} {a b : Expr} {ta tb : TE} {pos : Pos}
theorem pe_getO (O : OkAt X.prog X.w X.K X.mg X.base CX k f ps sp) (c : OwnGet X.K C f) (hx : Passes CX X E) (hr : Room (k + 1) X.A) (ha : PE X a ta) (hb : PE X b tb)
    (hsl : ∀ x i, subscripted b true (.ref x) i = runValue (.builtin "lifetime.subscript" ⟨[.ref x, i], []⟩)) : PE X (.Subscript a b pos) (tOp (rGetO C sp E) ta tb) := by
  obtain ⟨fd, F, B, _⟩ := O.ok
  refine ⟨fun pns s σ H Q inv h => Subscript_ (binT ha hb inv h fun v u s2 x y H2 J rx ry q => ?_)⟩
  obtain ⟨o, dx, fs, ex, ho, q⟩ := q
  subst ex
  cases rx
  obtain ⟨mA, JA, _⟩ := ins_get J.hok ho
  obtain ⟨oa, IA, _⟩ := JA.look
  obtain ⟨m, fr⟩ := J.fr
  have rel : Vals [V.ref o, y] [Value.ref o, u] := .cons (show RelV (V.ref o) (Value.ref o) from rfl) (.cons ry .nil)
  exact PySem.W.sub_K fr J.ok.mod.kin IA c.at_ c.isF c.call (run_own J.env0.frames F hr.in1 B hx J rel q) (hsl o u)
end
def mGetO (c : Nat) (fn : Fn) (a b : M) : M := fun ρ => bnd (a ρ) fun o ρ1 => bnd (b ρ1) fun i ρ2 => match o.frz with
  | .ins c' fs => if c' = c then onData fn [.ins c' fs, i.frz] ρ2 else none
  | _ => none
section
variable {G : Cn} {E E1 : XK} {ta tb : TE} {ma mb : M} {fn : Fn} {n c : Nat}
theorem sem_getO (hE : E1 = E ∨ ∀ os c f os', fn os ≠ some (.ex c f, os')) (hl : ∀ os r, fn os = some r → os.length = n) (ha : Sem G E ta ma) (hb : Sem G E tb mb) : Sem G E (tOp (rGetO (G.cls c) (spF G fn n) E1) ta tb) (mGetO c fn ma mb) := ⟨fun {F H σ ρ α Q} S h =>
  ha.run S (Post.to h fun o ρ1 v F1 H1 α1 S1 r1 T1 N1 h1 => hb.run S1 (Post.to (Post.shift T1 N1 h1) fun i ρ2 u F2 H2 α2 S2 r2 T2 N2 h2 => by
    split at h2
    · rename_i c' fs e
      rw [e] at r1
      split at h2
      · rename_i hc
        subst hc
        have r1' := r1.mono T2.exF
        have r1'' := r1'
        unfold Rep at r1'
        obtain ⟨a, dx, fvs, ev, e1, e2⟩ := r1'
        refine ⟨a, dx, fvs, ev, S2.ex.x e1, ?_⟩
        exact spF_data hE hl S2 (Reps.cons r1'' (Reps.one r2)) (Post.shift T2 N2 h2)
      · exact h2.elim
    · exact h2.elim))⟩
end
end VL

namespace VL
open PySem PySem.Spec
open PyProof.Rows L2
open Evl (Ex sz_of)

/-! ### dicts walked, whatever their keys are -/
/-- what a dict holds: keys and values, one after the other -/
def DEnt (w : World) (H : Hp) (a : Addr) (u : HO) (es : List (V × V)) : Prop := (∃ kvs : List (Key × V), u = .dK kvs ∧ es = kvs.map fun p => (kV p.1, p.2)) ∨ ∃ xs, u = NDo w a xs ∧ KsOk H xs ∧ es = xs.map fun x => (.ref x.2.1, x.2.2)
theorem pair_at {α β : Type} {R : α → β → Prop} : ∀ {l : List α} {l' : List β} {i : Nat} {y : β}, Paired R l l' → l'[i]? = some y → ∃ x, l[i]? = some x ∧ R x y
  | _, _, i, y, .nil, h => by simp at h
  | _, _, 0, y, .cons r t, h => by
    rw [List.getElem?_cons_zero] at h
    cases h
    exact ⟨_, rfl, r⟩
  | _, _, i + 1, y, .cons r t, h => by
    obtain ⟨x, h1, h2⟩ := pair_at (i := i) t (by simpa using h)
    exact ⟨x, by simpa using h1, h2⟩
/-- the same in the machine's words, while the dict is locked -/
theorem raw_of {X : Cx} {pins : List (Addr × Obj)} {σ : L2.St} {H : Hp} {s : Shared} {a : Addr} {od : Obj} {u : HO} {es : List (V × V)} (I : Inv X pins σ H s) (e : H a = some (.frz od u)) (hu : DEnt X.w H a u es) :
    s.heap.get? a = some od ∧ (a == sysModules) = false ∧ ∃ ees ep, s.heap.DictRaw a ees ep ∧ od.data = .dict ees ep ∧ ees.size = es.length ∧ ∀ (i : Nat) en, ees[i]? = some en → ∃ p, es[i]? = some p ∧ RelV p.1 en.key ∧ RelV p.2 en.val := by
  rcases hu with ⟨kvs, rfl, rfl⟩ | ⟨xs, rfl, ks, rfl⟩
  · obtain ⟨hs, hg, hx, ees, ep, vs, hd, hz, kv, hm⟩ := I.frzK e
    refine ⟨hg, hs, ees, ep, ⟨od, hg, hx, hd⟩, hd, by rw [List.length_map]; exact hz, fun i en hi => ?_⟩
    obtain ⟨es2, hr, hs2, he⟩ := PySem.Heap.DictAt.raw hm
    obtain ⟨o2, ho2, hx2, hd2⟩ := hr
    rw [hg] at ho2
    cases ho2
    obtain ⟨eq1, _⟩ := dict_ep hd hd2
    subst eq1
    have hlt : i < es2.size := (Array.getElem?_eq_some_iff.mp hi).1
    have hen : es2[i] = en := (Array.getElem?_eq_some_iff.mp hi).2
    have hl : kvs.length = vs.length := Paired.length kv
    have hv : i < vs.length := by omega
    obtain ⟨⟨k, v⟩, hk, hk1, hk2⟩ := pair_at kv (show vs[i]? = some vs[i] by simp [hv])
    obtain ⟨r1, r2⟩ := he i hlt vs[i].1 vs[i].2 (by simp [hv])
    refine ⟨(kV k, v), by rw [List.getElem?_map, hk]; rfl, ?_, ?_⟩
    · rw [← hen]
      have hk1' : k = vs[i].1 := hk1
      rw [hk1']
      exact relV_key (show keyIs vs[i].1 es2[i].key = true from r1)
    · rw [← hen, r2]
      exact hk2
  · have ob : ObjOk X.prog X.w H s.heap a (.frz od (NDo X.w a xs)) := I.hok a _ e
    obtain ⟨hg, ⟨l, sm, ys, p, o, ees, ep, h1, h2, h3, h4, h5⟩, _⟩ := ob
    rw [hg] at h1
    cases h1
    have hl : xs.length = ys.length := Paired.length p
    have sz : ees.size = ys.length := by
      have := congrArg List.length h4
      simpa using this
    refine ⟨hg, sm, ees, ep, ⟨od, hg, h2, h3⟩, h3, by rw [List.length_map]; omega, fun i en hi => ?_⟩
    have hen : ees.toList[i]? = some en := by simpa using hi
    rw [h4, List.getElem?_map] at hen
    obtain ⟨y, hy, rfl⟩ := Option.map_eq_some_iff.mp hen
    obtain ⟨x, hx, q1, q2, q3⟩ := pair_at p hy
    refine ⟨(.ref x.2.1, x.2.2), by rw [List.getElem?_map, hx]; rfl, ?_, q3⟩
    show RelV (.ref x.2.1) (.ref y.2.1)
    rw [q2]
    rfl
def srcKeys (a : Addr) (n ep : Nat) : Src where
  o := { cls := .type "dict_keyiterator", data := .fields #[.ref a, .int 0 0, .int n 0, .int ep 0] }
  ex := [a]
  ci := fun it i h => h.IsKeyIter it a i n ep
  ini := fun h it e => ⟨_, e, rfl, rfl⟩
  mov := fun h h' it i x k => x.at fun o e => k o e
  liv := fun h it i ⟨o, e, _, d⟩ => ⟨o, e, fun v q => by rw [d] at q; cases q⟩
def srcVals (a : Addr) (n ep : Nat) : Src where
  o := { cls := .type "dict_valueiterator", data := .fields #[.ref a, .int 0 0, .int n 0, .int ep 0] }
  ex := [a]
  ci := fun it i h => h.IsValIter it a i n ep
  ini := fun h it e => ⟨_, e, rfl, rfl⟩
  mov := fun h h' it i ⟨o, e, r⟩ k => ⟨o, k o e, r⟩
  liv := fun h it i ⟨o, e, _, d⟩ => ⟨o, e, fun v q => by rw [d] at q; cases q⟩
/-- what a for over the source does in this heap; how it begins is not said -/
def WalkG (P : Program) (w : World) (S : Src) (xs : List V) (h : Heap) : Prop :=
  ∃ c : Heap → Prop, c h ∧ (∀ b ∈ S.ex, b < h.objs.size) ∧ ∀ (A : Around) (tg : Expr) (it : Addr), A.handled = none → it ∉ S.ex →
    Goes P w A tg it (it :: S.ex) [it] xs.length (fun i u _ => ∃ x, xs[i]? = some x ∧ RelV x u) (fun i h => S.ci it i h ∧ c h)
theorem walkG_keys {P : Program} {w : World} {a : Addr} {ees : Array DictEntry} {ep : Nat} {xs : List V} {h : Heap} (hr : h.DictRaw a ees ep) (hz : ees.size = xs.length) (hx : ∀ (i : Nat) en, ees[i]? = some en → ∃ x, xs[i]? = some x ∧ RelV x en.key) : WalkG P w (srcKeys a ees.size ep) xs h := by
  refine ⟨fun h => h.DictRaw a ees ep, hr, fun b hb => ?_, fun A tg it hh ne => ?_⟩
  · obtain ⟨o, ho, _⟩ := hr
    rw [List.mem_singleton.mp hb]
    exact Heap.lt_size ho
  · have ai : a ≠ it := fun z => ne (z ▸ List.mem_singleton.mpr rfl)
    refine VL.Goes.len (PySem.Goes.mono (PySem.Goes.rawKeys hh it a ai ees ep) fun i u _ _ ⟨hi, q⟩ => ?_) hz
    obtain ⟨x, h1, h2⟩ := hx i ees[i] (by simp [hi])
    exact ⟨x, h1, q ▸ h2⟩
theorem walkG_vals {P : Program} {w : World} {a : Addr} {ees : Array DictEntry} {ep : Nat} {xs : List V} {h : Heap} (hr : h.DictRaw a ees ep) (hz : ees.size = xs.length) (hx : ∀ (i : Nat) en, ees[i]? = some en → ∃ x, xs[i]? = some x ∧ RelV x en.val) : WalkG P w (srcVals a ees.size ep) xs h := by
  refine ⟨fun h => h.DictRaw a ees ep, hr, fun b hb => ?_, fun A tg it hh ne => ?_⟩
  · obtain ⟨o, ho, _⟩ := hr
    rw [List.mem_singleton.mp hb]
    exact Heap.lt_size ho
  · have ai : a ≠ it := fun z => ne (z ▸ List.mem_singleton.mpr rfl)
    refine VL.Goes.len (PySem.Goes.mono (PySem.Goes.rawValues hh it a ai ees ep) fun i u _ _ ⟨hi, q⟩ => ?_) hz
    obtain ⟨x, h1, h2⟩ := hx i ees[i] (by simp [hi])
    exact ⟨x, h1, q ▸ h2⟩
theorem turn_srcG {P : Program} {w : World} {K : PySem.W.Frag} {tg : Expr} {S : Src} {xs : List V} {Gd : Hp → Prop} {N : Addr}
    (sf : ∀ (P : Program) (w : World) (A : Around) (it : Addr) (i : Nat) (s : Shared) (Q : Value → Shared → Prop) (E : Value → Shared → Prop), S.ci it i s.heap → Q (.ref it) s → wpAny (model P w) A (pyIter (.ref it)) Q E s)
    (f : ∀ X : Cx, X.K = K → X.w = w → ∀ (pins : List (Addr × Obj)) (σ : L2.St) (H : Hp) (s : Shared), Inv X pins σ H s → Gd H → WalkG X.prog X.w S xs s.heap) (lt : N ∉ S.ex) :
    Turn P w K tg (ItS xs Gd) [N] N (fun i h => S.ci N i h ∧ i ≤ xs.length) where
  mem := List.mem_singleton.mpr rfl
  obj := fun i h t b hb => by
    rw [List.mem_singleton.mp hb]
    exact S.liv h N i t.1
  keep := fun i h h' t k => ⟨S.mov h h' N i t.1 (k N (List.mem_singleton.mpr rfl)), t.2⟩
  self := fun A i s Q E t q => sf P w A N i s Q E t.1 q
  item := by
    intro X e1 e2 e3 hc i pins s σ H E I ok t go
    subst e1 e2 e3
    obtain ⟨c, hp, _, W⟩ := f X rfl rfl pins σ H s I go.1
    refine (W X.A tg N (I.ok.hd hc) lt).goes i s _ E go.2 ⟨t.1, hp⟩ fun v h' tk y st kp _ => ?_
    obtain ⟨x, hx, rx⟩ := y
    exact ⟨x, H, I.turnedL (t' := tk) (ch := [N]) kp ok, rx, ⟨rfl, hx⟩, ⟨st.1, go.2⟩, fun b hb => (ok b hb).1⟩
  done := by
    intro X e1 e2 e3 hc i pins s σ H E I ok t stp
    subst e1 e2 e3
    obtain ⟨c, hp, _, W⟩ := f X rfl rfl pins σ H s I stp.1
    have hi : i = xs.length := Nat.le_antisymm t.2 stp.2
    exact (W X.A tg N (I.ok.hd hc) lt).stops s _ E ⟨hi ▸ t.1, hp⟩ fun h' tk kp _ => I.turnedL (t' := tk) (ch := [N]) kp ok
/-- what is walked: a sequence, or the keys of a dict (which is locked at the walk's beginning, for good) -/
def goD (w : World) (a : Addr) (od : Obj) (u : HO) (es : List (V × V)) (H : Hp) : Prop := H a = some (.frz od u) ∧ DEnt w H a u es
def dictR (w : World) (a : Addr) (R : It → Hp → Prop) (f : V × V → V) (H1 : Hp) : Prop := ∃ u es, DEnt w H1 a u es ∧
  ((H1 a = some u ∧ ∀ od, R (ItS (es.map f) (goD w a od u es)) (upd H1 a (.frz od u))) ∨ ∃ od, H1 a = some (.frz od u) ∧ R (ItS (es.map f) (goD w a od u es)) H1)
def iWalkL (K : PySem.W.Frag) (w : World) (te : TE) : TI := fun σ H R => te σ H fun v H1 => (∃ xs Gd, SrcV K v xs Gd ∧ Gd H1 ∧ R (ItS xs Gd) H1) ∨ ∃ a, v = .ref a ∧ dictR w a R (·.1) H1
theorem DEnt.lx {w : World} {H H' : Hp} {a : Addr} {u : HO} {es : List (V × V)} (e : Lx H H') (h : DEnt w H a u es) : DEnt w H' a u es := by
  rcases h with h | ⟨xs, h1, h2, h3⟩
  · exact .inl h
  · exact .inr ⟨xs, h1, h2.lx e, h3⟩
theorem Lx.lock {H : Hp} {a : Addr} {u : HO} {od : Obj} (h : H a = some u) (l : Lk u = true) : Lx H (upd H a (.frz od u)) := fun b o hb => by
  by_cases q : b = a
  · subst q
    rw [h] at hb
    cases hb
    exact .inr ⟨l, od, upd_same⟩
  · rw [upd_ne q]
    exact .inl hb
theorem DEnt.lk {w : World} {H : Hp} {a : Addr} {u : HO} {es : List (V × V)} (h : DEnt w H a u es) : Lk u = true ∧ Mut (some u) := by
  rcases h with ⟨_, rfl, _⟩ | ⟨_, rfl, _⟩
  · exact ⟨rfl, trivial⟩
  · exact ⟨rfl, trivial⟩
/-- the dict at a is locked, or was it -/
theorem locked_of {X : Cx} {pins : List (Addr × Obj)} {σ : L2.St} {H : Hp} {s : Shared} {a : Addr} {R : It → Hp → Prop} {f : V × V → V} {Q : Prop} (I : Inv X pins σ H s) (h : dictR X.w a R f H)
    (k : ∀ H2 od u es, Inv X pins σ H2 s → goD X.w a od u es H2 → R (ItS (es.map f) (goD X.w a od u es)) H2 → Q) : Q := by
  obtain ⟨u, es, de, ⟨ha, q⟩ | ⟨od, ha, q⟩⟩ := h
  · obtain ⟨od, I2⟩ := I.lock ha de.lk.2
    exact k _ od u es I2 ⟨upd_same, de.lx (.lock ha de.lk.1)⟩ (q od)
  · exact k _ od u es I ⟨ha, de⟩ q
theorem pi_walkL {X : Cx} {tg e : Expr} {te : TE} (he : PE X e te) : PI X tg e (iWalkL X.K X.w te) where
  run := fun pins s σ H R I h => by
    refine thn (he.run pins s σ H _ I h) fun u1 s1 got => ?_
    obtain ⟨v, H1, I1, rv, ⟨xs, Gd, k, g, q⟩ | ⟨a, rfl, q⟩⟩ := got
    · obtain ⟨S, sf, f⟩ := k.walk rv
      obtain ⟨c, hp, B, lt, _⟩ := f X rfl pins σ H1 s1 I1 g
      have nx : s1.heap.objs.size ∉ S.ex := fun z => absurd (lt _ z) (Nat.lt_irrefl _)
      refine B.iter _ _ _ _ _ _ hp ⟨_, [s1.heap.objs.size], _, _, H1, rfl, I1.kept (t' := s1.toks) (fun b o e => Heap.get?_push_of_some _ e), turn_srcV sf f nx, ⟨S.ini _ _ (Heap.get?_push_size _ B.free), Nat.zero_le _⟩, fun b hb => ?_, q⟩
      rw [List.mem_singleton.mp hb]
      exact I1.fpOk (Nat.le_refl _) (I1.hok.fresh (Nat.le_refl _))
    · obtain rfl : u1 = Value.ref a := rv
      refine locked_of I1 q fun H2 od u es I2 gd r => ?_
      obtain ⟨hg, hsm, ees, ep, hr, hd, hz, hx⟩ := raw_of I2 gd.1 gd.2
      refine wpAny_pyIter_dict_raw hsm hr ?_
      have nx : s1.heap.objs.size ∉ (srcKeys a ees.size ep).ex := fun z => by
        have z' : s1.heap.objs.size = a := List.mem_singleton.mp z
        exact absurd (Heap.lt_size hg) (by rw [z']; exact Nat.lt_irrefl _)
      have f : ∀ Y : Cx, Y.K = X.K → Y.w = X.w → ∀ (pins : List (Addr × Obj)) (σ : L2.St) (H : Hp) (s : Shared), Inv Y pins σ H s → goD X.w a od u es H → WalkG Y.prog Y.w (srcKeys a ees.size ep) (es.map (·.1)) s.heap := fun Y _ hw pins σ H s J g => by
        obtain ⟨hg', hsm', ees', ep', hr', hd', hz', hx'⟩ := raw_of J g.1 (by rw [hw]; exact g.2)
        rw [hd] at hd'
        cases hd'
        refine walkG_keys hr' (by rw [List.length_map]; exact hz') fun i en hi => ?_
        obtain ⟨p, hp, r1, _⟩ := hx' i en hi
        exact ⟨p.1, by rw [List.getElem?_map, hp]; rfl, r1⟩
      refine ⟨_, [s1.heap.objs.size], _, _, H2, rfl, I2.kept (t' := s1.toks) (fun b o e => Heap.get?_push_of_some _ e), turn_srcG (fun P w A it i s Q E c q => wpAny_pyIter_keyiter c q) f nx, ⟨(srcKeys a ees.size ep).ini _ _ (Heap.get?_push_size _ rfl), Nat.zero_le _⟩, fun b hb => ?_, r⟩
      rw [List.mem_singleton.mp hb]
      exact I2.fpOk (Nat.le_refl _) (I2.hok.fresh (Nat.le_refl _))
/-! ### at the value layer -/

mutual
def nkD : NestedKey → D
  | .none => .non
  | .num i => .int i
  | .text x => .str x
  | .tup ks => .tup (nkDs ks)
def nkDs : List NestedKey → List D
  | [] => []
  | k :: ks => nkD k :: nkDs ks
end
section
variable {G : Cn} {H : Hp}
mutual
theorem KRep.rep : ∀ {v : V} (k : NestedKey), KRep H v k → Rep G H v (nkD k)
  | _, .none, h => by
    unfold nkD Rep
    exact h
  | _, .num _, h => by
    unfold nkD Rep
    exact h
  | _, .text _, h => by
    unfold nkD Rep
    exact h
  | _, .tup ks, h => by
    unfold KRep at h
    obtain ⟨a, vs, rfl, e2, e3⟩ := h
    unfold nkD Rep
    exact ⟨a, vs, rfl, e2, KReps.rep ks e3⟩
theorem KReps.rep : ∀ {vs : List V} (ks : List NestedKey), KReps H vs ks → Reps G H vs (nkDs ks)
  | _, [], h => by
    unfold nkDs Reps
    exact h
  | _, k :: ks, h => by
    unfold KReps at h
    obtain ⟨v, r, rfl, e2, e3⟩ := h
    unfold nkDs Reps
    exact ⟨v, r, rfl, KRep.rep k e2, KReps.rep ks e3⟩
end
end
/-- the entries of a dict as data: keys and values -/
def entsD : D → Option (List (D × D))
  | .dic kds => some (kds.map fun p => (kD p.1, p.2))
  | .dcn kds => some (kds.map fun p => (nkD p.1, p.2))
  | _ => none
section
variable {G : Cn} {F F1 H H1 : Hp} {σ : L2.St} {ρ ρ1 : Rho} {α α1 : Al}
theorem ents_of {v : V} {d : D} {es : List (D × D)} (r : Rep G F1 v d) (e : entsD d = some es) : ∃ a u ps, v = .ref a ∧ F1 a = some u ∧ Lk u = true ∧ DEnt G.w F1 a u ps ∧ Reps G F1 (ps.map (·.1)) (es.map (·.1)) ∧ Reps G F1 (ps.map (·.2)) (es.map (·.2)) := by
  cases d <;> cases e
  · rename_i kds
    unfold Rep at r
    obtain ⟨a, kvs, rfl, h1, h2⟩ := r
    refine ⟨a, _, kvs.map fun p => (kV p.1, p.2), rfl, h1, rfl, .inl ⟨kvs, rfl, rfl⟩, ?_⟩
    clear h1
    induction kds generalizing kvs with
    | nil => rw [h2.of_nil]; exact ⟨.nil, .nil⟩
    | cons kd kds ih =>
      obtain ⟨k, d⟩ := kd
      obtain ⟨v, w, rfl, q, t⟩ := h2.of_cons
      obtain ⟨i1, i2⟩ := ih w t
      exact ⟨.cons kD_rep i1, .cons q i2⟩
  · rename_i kds
    unfold Rep at r
    obtain ⟨a, xs, rfl, h1, h2⟩ := r
    refine ⟨a, _, xs.map fun x => (.ref x.2.1, x.2.2), rfl, h1, rfl, .inr ⟨xs, rfl, h2.ks, rfl⟩, ?_⟩
    clear h1
    induction kds generalizing xs with
    | nil =>
      unfold RepsN at h2
      subst h2
      exact ⟨.nil, .nil⟩
    | cons kd kds ih =>
      obtain ⟨k, d⟩ := kd
      unfold RepsN at h2
      obtain ⟨q, v, r, rfl, e2, e3, t⟩ := h2
      obtain ⟨i1, i2⟩ := ih r t
      exact ⟨.cons (e2.1.rep) i1, .cons e3 i2⟩
theorem Ste.lock {a : Addr} {u : HO} {od : Obj} (S : Ste G F H σ ρ α) (f : F a = some u) (l : Lk u = true) (h : H a = some u) : Ste G F (upd H a (.frz od u)) σ ρ α where
  ex := fun b o e => by
    by_cases q : b = a
    · subst q
      rw [f] at e
      cases e
      exact .inr ⟨l, od, upd_same⟩
    · rw [upd_ne q]
      exact S.ex b o e
  len := S.len
  slot := fun i o e => by
    obtain ⟨v, h1, r⟩ := S.slot i o e
    refine ⟨v, h1, r.move (Ex.refl F) (fun b hb => (r.mem b hb).1) fun b hb w hw => ?_⟩
    have ne : b ≠ a := fun z => by
      have := (r.mem b hb).1
      rw [z, f] at this
      cases this
    rw [upd_ne ne]
    exact hw
  off := S.off
  dis := S.dis
theorem Stp.lock {A : Addr → Prop} {a : Addr} {u : HO} {od : Obj} (f : F a = some u) (l : Lk u = true) (h : H a = some u) : Stp A F H F (upd H a (.frz od u)) where
  exF := Ex.refl F
  keep := fun b o e _ => by
    by_cases q : b = a
    · subst q
      rw [h] at e
      cases e
      exact .inr ⟨f, l, od, upd_same⟩
    · rw [upd_ne q]
      exact .inl e
  newF := fun b o e => .inl e
theorem it_ents {a : Addr} {u : HO} {od : Obj} {ps : List (V × V)} {f : V × V → V} {ds : List D} (h : F1 a = some u) (hl : H1 a = some (.frz od u)) (de : DEnt G.w F1 a u ps) (r : Reps G F1 (ps.map f) ds) : ItSem G F1 H1 (ItS (ps.map f) (goD G.w a od u ps)) ds := fun {F' H'} i e1 e2 e3 => by
  have l := r.length
  have g : goD G.w a od u ps H' := ⟨e3 _ _ _ hl, de.lx (Lx.pre e1 e2)⟩
  refine ⟨fun hi => ⟨g, by omega⟩, fun hi => ⟨g, by omega⟩, fun x H'' d hd y => ?_⟩
  obtain ⟨e, hx⟩ := y
  subst e
  obtain ⟨v, q1, q2⟩ := r.get hd
  rw [hx] at q1
  cases q1
  exact ⟨F', Ex.refl F', Ex.refl _, fun _ _ z => .inl z, e2, q2.mono e1⟩
/-- the walk over a frozen dict begins -/
theorem dictR_of {a : Addr} {u : HO} {ps : List (V × V)} {f : V × V → V} {ds : List D} {R : It → Hp → Prop} (S1 : Ste G F1 H1 σ ρ1 α1) (T1 : Stp (Own α) F H F1 H1) (N1 : New (Own α) H (Own α1)) (h : F1 a = some u) (l : Lk u = true) (de : DEnt G.w F1 a u ps) (r : Reps G F1 (ps.map f) ds)
    (k : ∀ J F1 H1 α1, Ste G F1 H1 σ ρ1 α1 → Stp (Own α) F H F1 H1 → New (Own α) H (Own α1) → ItSem G F1 H1 J ds → R J H1) : dictR G.w a R f H1 := by
  refine ⟨u, ps, de.lx S1.ex, ?_⟩
  rcases S1.ex a u h with z | ⟨_, od, z⟩
  · exact .inl ⟨z, fun od => k _ F1 _ α1 (S1.lock h l z) (T1.trans (.lock h l z) N1) N1 (it_ents h upd_same de r)⟩
  · exact .inr ⟨od, z, k _ F1 H1 α1 S1 T1 N1 (it_ents h z de r)⟩
def iWalkA (a : M) : MI := fun ρ => match a ρ with
  | some (.ok o, ρ1) => (match walkD o.frz with
    | some ds => some (ds, ρ1)
    | none => (entsD o.frz).map fun es => (es.map (·.1), ρ1))
  | _ => none
theorem semI_walkL {E : XK} {tl : TE} {a : M} (ha : Sem G E tl a) : SemI G (iWalkL G.K G.w tl) (iWalkA a) := ⟨fun {F H σ ρ α ds ρ1 R} S e k => by
  unfold iWalkA at e
  split at e
  · rename_i o ρ' e1
    cases e2 : walkD o.frz with
    | some ds' =>
      rw [e2] at e
      cases e
      refine ha.run S (Post.okEnd e1 fun v F1 H1 α1 S1 r1 T1 N1 => ?_)
      obtain ⟨xs, k1, p1⟩ := r1.walk e2
      exact .inl ⟨xs, _, k1, S1.ex, k _ F1 H1 α1 S1 T1 N1 (it_src p1)⟩
    | none =>
      rw [e2] at e
      cases e3 : entsD o.frz with
      | none => rw [e3] at e; cases e
      | some es =>
        rw [e3] at e
        cases e
        refine ha.run S (Post.okEnd e1 fun v F1 H1 α1 S1 r1 T1 N1 => ?_)
        obtain ⟨a, u, ps, rfl, h1, l, de, r2, r3⟩ := ents_of r1 e3
        exact .inr ⟨a, rfl, dictR_of S1 T1 N1 h1 l de r2 k⟩
  · cases e⟩
end
end VL

namespace VL
open PySem PySem.Spec
open PyProof.Rows L2
open Evl (Ex sz_of)

/-! ### dicts whose keys are tuples: asked and changed -/
mutual
def nkOf : D → Option NestedKey
  | .non => some .none
  | .int i => some (.num i)
  | .str x => some (.text x)
  | .tup ds => (nksOf ds).map .tup
  | _ => none
def nksOf : List D → Option (List NestedKey)
  | [] => some []
  | d :: ds => (nkOf d).bind fun k => (nksOf ds).map (k :: ·)
end
section
variable {G : Cn} {F H : Hp}
mutual
theorem krep_of : ∀ (d : D) {v : V} {k : NestedKey}, Rep G F v d → nkOf d = some k → KRep F v k
  | .non, v, k, r, e => by
    unfold nkOf at e
    cases e
    unfold Rep at r
    unfold KRep
    exact r
  | .int i, v, k, r, e => by
    unfold nkOf at e
    cases e
    unfold Rep at r
    unfold KRep
    exact r
  | .str i, v, k, r, e => by
    unfold nkOf at e
    cases e
    unfold Rep at r
    unfold KRep
    exact r
  | .tup ds, v, k, r, e => by
    unfold nkOf at e
    obtain ⟨ks, e1, rfl⟩ := Option.map_eq_some_iff.mp e
    unfold Rep at r
    obtain ⟨a, vs, rfl, h1, h2⟩ := r
    unfold KRep
    exact ⟨a, vs, rfl, h1, kreps_of ds h2 e1⟩
  | .bl _, _, _, _, e => by unfold nkOf at e; cases e
  | .lst _, _, _, _, e => by unfold nkOf at e; cases e
  | .dic _, _, _, _, e => by unfold nkOf at e; cases e
  | .ins _ _, _, _, _, e => by unfold nkOf at e; cases e
  | .scr _, _, _, _, e => by unfold nkOf at e; cases e
  | .dcn _, _, _, _, e => by unfold nkOf at e; cases e
  | .cls _, _, _, _, e => by unfold nkOf at e; cases e
  | .emp, _, _, _, e => by unfold nkOf at e; cases e
theorem kreps_of : ∀ (ds : List D) {vs : List V} {ks : List NestedKey}, Reps G F vs ds → nksOf ds = some ks → KReps F vs ks
  | [], vs, ks, r, e => by
    unfold nksOf at e
    cases e
    unfold KReps
    exact r.of_nil
  | d :: ds, vs, ks, r, e => by
    unfold nksOf at e
    obtain ⟨v, ws, rfl, r1, r2⟩ := r.of_cons
    obtain ⟨k, e1, e2⟩ := Option.bind_eq_some_iff.mp e
    obtain ⟨ks', e3, rfl⟩ := Option.map_eq_some_iff.mp e2
    unfold KReps
    exact ⟨v, ws, rfl, krep_of d r1 e1, kreps_of ds r2 e3⟩
end
end
/-- a key that is a tuple -/
def nkT : D → Option NestedKey
  | .tup ds => (nkOf (.tup ds)).bind fun k => if k.depth ≤ 8 then some k else none
  | _ => none
def getN (xs : List (NestedKey × D)) (k : NestedKey) : Option D := (xs.find? fun p => decide (p.1 = k)).map (·.2)
def putN (xs : List (NestedKey × D)) (k : NestedKey) (d : D) : List (NestedKey × D) := if (getN xs k).isSome then xs.map fun p => if p.1 = k then (p.1, d) else p else xs ++ [(k, d)]
def valN (xs : List (NestedKey × Addr × V)) (k : NestedKey) : Option V := (xs.find? fun p => decide (p.1 = k)).map (·.2.2)
def storeN (xs : List (NestedKey × Addr × V)) (k : NestedKey) (a : Addr) (v : V) : List (NestedKey × Addr × V) := if (valN xs k).isSome then xs.map fun p => if p.1 = k then (p.1, p.2.1, v) else p else xs ++ [(k, a, v)]
section
variable {G : Cn} {F H : Hp}
theorem RepsN.of_cons {xs : List (NestedKey × Addr × V)} {k : NestedKey} {d : D} {ds : List (NestedKey × D)} (h : RepsN G H xs ((k, d) :: ds)) : ∃ q v r, xs = (k, q, v) :: r ∧ (KRep H (.ref q) k ∧ k.depth ≤ 8) ∧ Rep G H v d ∧ RepsN G H r ds := by
  unfold RepsN at h
  exact h
theorem RepsN.of_nil {xs : List (NestedKey × Addr × V)} (h : RepsN G H xs []) : xs = [] := by
  unfold RepsN at h
  exact h
theorem RepsN.nil : RepsN G H [] [] := by unfold RepsN; rfl
theorem RepsN.cons {q : Addr} {v : V} {r : List (NestedKey × Addr × V)} {k : NestedKey} {d : D} {ds : List (NestedKey × D)} (h1 : KRep H (.ref q) k ∧ k.depth ≤ 8) (h2 : Rep G H v d) (h3 : RepsN G H r ds) : RepsN G H ((k, q, v) :: r) ((k, d) :: ds) := by
  unfold RepsN
  exact ⟨q, v, r, rfl, h1, h2, h3⟩
theorem RepsN.get (k : NestedKey) : ∀ {xs : List (NestedKey × Addr × V)} {ds : List (NestedKey × D)}, RepsN G H xs ds → (∀ d, getN ds k = some d → ∃ v, valN xs k = some v ∧ Rep G H v d) ∧ (getN ds k = none → valN xs k = none)
  | _, [], h => by
    rw [h.of_nil]
    exact ⟨fun d e => (by cases e), fun _ => rfl⟩
  | _, (k', d') :: ds, h => by
    obtain ⟨q, v, r, rfl, _, h1, t⟩ := h.of_cons
    obtain ⟨i1, i2⟩ := RepsN.get k t
    by_cases e : k' = k
    · refine ⟨fun d hd => ⟨v, by simp [valN, e], ?_⟩, fun hd => by simp [getN, e] at hd⟩
      have : d' = d := by simpa [getN, e] using hd
      exact this ▸ h1
    · refine ⟨fun d hd => ?_, fun hd => ?_⟩
      · obtain ⟨u, h2, h3⟩ := i1 d (by simpa [getN, e] using hd)
        exact ⟨u, by simpa [valN, e] using h2, h3⟩
      · have := i2 (by simpa [getN, e] using hd)
        simpa [valN, e] using this
theorem RepsN.isSome (k : NestedKey) {xs : List (NestedKey × Addr × V)} {ds : List (NestedKey × D)} (h : RepsN G H xs ds) : (valN xs k).isSome = (getN ds k).isSome := by
  cases q : getN ds k with
  | none => rw [(h.get k).2 q]; rfl
  | some d =>
    obtain ⟨v, e, _⟩ := (h.get k).1 d q
    rw [e]
    rfl
theorem RepsN.map {k : NestedKey} {v : V} {d : D} (q : Rep G H v d) : ∀ {xs : List (NestedKey × Addr × V)} {ds : List (NestedKey × D)}, RepsN G H xs ds → RepsN G H (xs.map fun p => if p.1 = k then (p.1, p.2.1, v) else p) (ds.map fun p => if p.1 = k then (p.1, d) else p)
  | _, [], h => by rw [h.of_nil]; exact .nil
  | _, (k', d') :: ds, h => by
    obtain ⟨a, v', r, rfl, h1, h2, t⟩ := h.of_cons
    by_cases e : k' = k
    · simp only [List.map_cons, e, if_true]
      exact .cons (e ▸ h1) q (RepsN.map q t)
    · simp only [List.map_cons, e, if_false]
      exact .cons h1 h2 (RepsN.map q t)
theorem RepsN.snoc {k : NestedKey} {a : Addr} {v : V} {d : D} (hk : KRep H (.ref a) k ∧ k.depth ≤ 8) (q : Rep G H v d) : ∀ {xs : List (NestedKey × Addr × V)} {ds : List (NestedKey × D)}, RepsN G H xs ds → RepsN G H (xs ++ [(k, a, v)]) (ds ++ [(k, d)])
  | _, [], h => by rw [h.of_nil]; exact .cons hk q .nil
  | _, (k', d') :: ds, h => by
    obtain ⟨a, v', r, rfl, h1, h2, t⟩ := h.of_cons
    exact .cons h1 h2 (RepsN.snoc hk q t)
theorem RepsN.put {k : NestedKey} {a : Addr} {v : V} {d : D} {xs : List (NestedKey × Addr × V)} {ds : List (NestedKey × D)} (h : RepsN G H xs ds) (hk : KRep H (.ref a) k ∧ k.depth ≤ 8) (q : Rep G H v d) : RepsN G H (storeN xs k a v) (putN ds k d) := by
  unfold storeN putN
  rw [h.isSome k]
  split
  · exact h.map q
  · exact h.snoc hk q
/-- the machine's dict and ours, at a key -/
theorem NPair.val (k : NestedKey) : ∀ {xs : List (NestedKey × Addr × V)} {ys : List (NestedKey × Addr × Value)}, NPair xs ys → (∀ v, valN xs k = some v → ∃ a u, atKey ys k = some (a, u) ∧ RelV v u) ∧ (valN xs k = none → atKey ys k = none)
  | _, _, .nil => ⟨fun v e => (by cases e), fun _ => rfl⟩
  | _, _, .cons (a := x) (b := y) r t => by
    obtain ⟨i1, i2⟩ := NPair.val k t
    obtain ⟨e1, e2, e3⟩ := r
    by_cases e : x.1 = k
    · have e' : y.1 = k := e1 ▸ e
      refine ⟨fun v hv => ⟨y.2.1, y.2.2, by simp [atKey, e'], ?_⟩, fun hv => by simp [valN, e] at hv⟩
      have : x.2.2 = v := by simpa [valN, e] using hv
      exact this ▸ e3
    · have e' : y.1 ≠ k := fun z => e (e1.trans z)
      refine ⟨fun v hv => ?_, fun hv => ?_⟩
      · obtain ⟨a, u, h1, h2⟩ := i1 v (by simpa [valN, e] using hv)
        exact ⟨a, u, by simpa [atKey, e'] using h1, h2⟩
      · have := i2 (by simpa [valN, e] using hv)
        simpa [atKey, e'] using this
theorem NPair.isSome (k : NestedKey) {xs : List (NestedKey × Addr × V)} {ys : List (NestedKey × Addr × Value)} (h : NPair xs ys) : (atKey ys k).isSome = (valN xs k).isSome := by
  cases q : valN xs k with
  | none => rw [(h.val k).2 q]; rfl
  | some d =>
    obtain ⟨a, u, e, _⟩ := (h.val k).1 d q
    rw [e]
    rfl
theorem NPair.map {k : NestedKey} {v : V} {u : Value} (q : RelV v u) : ∀ {xs : List (NestedKey × Addr × V)} {ys : List (NestedKey × Addr × Value)}, NPair xs ys → NPair (xs.map fun p => if p.1 = k then (p.1, p.2.1, v) else p) (ys.map (putAt k u))
  | _, _, .nil => .nil
  | _, _, .cons (a := x) (b := y) r t => by
    obtain ⟨e1, e2, e3⟩ := r
    refine .cons ?_ (NPair.map q t)
    unfold putAt
    by_cases e : x.1 = k
    · have e' : y.1 = k := e1 ▸ e
      simp only [e, e', if_true]
      exact ⟨trivial, e2, q⟩
    · have e' : y.1 ≠ k := fun z => e (e1.trans z)
      simp only [e, e', if_false]
      exact ⟨e1, e2, e3⟩
theorem NPair.snoc {k : NestedKey} {a : Addr} {v : V} {u : Value} (q : RelV v u) : ∀ {xs : List (NestedKey × Addr × V)} {ys : List (NestedKey × Addr × Value)}, NPair xs ys → NPair (xs ++ [(k, a, v)]) (ys ++ [(k, a, u)])
  | _, _, .nil => .cons ⟨rfl, rfl, q⟩ .nil
  | _, _, .cons r t => .cons r (NPair.snoc q t)
theorem NPair.put {k : NestedKey} {a : Addr} {v : V} {u : Value} {xs : List (NestedKey × Addr × V)} {ys : List (NestedKey × Addr × Value)} (h : NPair xs ys) (q : RelV v u) : NPair (storeN xs k a v) (storedH ys k a u) := by
  unfold storeN storedH
  rw [h.isSome k]
  split
  · exact h.map q
  · exact h.snoc q
end

theorem NDict.keeps {w : World} {a : Addr} {xs : List (NestedKey × Addr × V)} {h1 h2 : Heap} (n : NDict w a xs h1) (k : ∀ o, h1.get? a = some o → h2.get? a = some o) : NDict w a xs h2 := by
  obtain ⟨l, sm, ys, p, o, es, ep, e1, r⟩ := n
  exact ⟨l, sm, ys, p, o, es, ep, k o e1, r⟩
/-- what the dict at a holds at the key y -/
def NGet (w : World) (H : Hp) (a : Addr) (y : V) (r : Option V) : Prop := ∃ xs k b, Rd H a (NDo w a xs) ∧ KsOk H xs ∧ y = .ref b ∧ KRep H y k ∧ k.depth ≤ 8 ∧ r = valN xs k
section
variable {X : Cx} {pins : List (Addr × Obj)} {σ : L2.St} {H : Hp} {s : Shared} {a : Addr} {y v : V} {u r : Value} {o : Option V} {A : Around} {E : Value → Shared → Prop}
theorem n_get {Q : Value → Shared → Prop} (hu : A.units + 9 < cLine) (I : Inv X pins σ H s) (g : NGet X.w H a y (some v)) (ry : RelV y u) (h : ∀ w' s', Inv X pins σ H s' → RelV v w' → Q w' s') :
    wpAny (model X.prog X.w) A (getItem (.ref a) u) Q E s := by
  obtain ⟨xs, k, b, e, ks, rfl, hk, dk, l⟩ := g
  cases (show u = Value.ref b from ry)
  obtain ⟨z, hd, ys, p, dd⟩ := nd_of I.hok e ks
  obtain ⟨c, w', hw, rw'⟩ := (NPair.val k p).1 v l.symm
  exact wpAny_getItem_heap (knd := nestedKind X.prog X.w) (show A.units + 1 + 8 < cLine from hu) ⟨kis I.hok k hk rfl, dk⟩ dd hw (h w' _ (I.tok _) rw')
theorem n_in {Q : Value → Shared → Prop} (hu : A.units + 9 < cLine) (I : Inv X pins σ H s) (g : NGet X.w H a y o) (ry : RelV y u) (h : ∀ s', Inv X pins σ H s' → Q (.bool o.isSome) s') :
    wpAny (model X.prog X.w) A (compareOp .In u (.ref a)) Q E s := by
  obtain ⟨xs, k, b, e, ks, rfl, hk, dk, l⟩ := g
  cases (show u = Value.ref b from ry)
  obtain ⟨z, hd, ys, p, dd⟩ := nd_of I.hok e ks
  refine wpAny_in_heap (knd := nestedKind X.prog X.w) (show A.units + 1 + 8 < cLine from hu) ⟨kis I.hok k hk rfl, dk⟩ hd dd ?_
  rw [NPair.isSome k p, ← l]
  exact h _ (I.tok _)
theorem n_notIn {Q : Value → Shared → Prop} (hu : A.units + 9 < cLine) (I : Inv X pins σ H s) (g : NGet X.w H a y o) (ry : RelV y u) (h : ∀ s', Inv X pins σ H s' → Q (.bool (!o.isSome)) s') :
    wpAny (model X.prog X.w) A (compareOp .NotIn u (.ref a)) Q E s := by
  obtain ⟨xs, k, b, e, ks, rfl, hk, dk, l⟩ := g
  cases (show u = Value.ref b from ry)
  obtain ⟨z, hd, ys, p, dd⟩ := nd_of I.hok e ks
  refine wpAny_notIn_heap (knd := nestedKind X.prog X.w) (show A.units + 1 + 8 < cLine from hu) ⟨kis I.hok k hk rfl, dk⟩ hd dd ?_
  rw [NPair.isSome k p, ← l]
  exact h _ (I.tok _)
/-- d[y] = v -/
theorem n_set {xs : List (NestedKey × Addr × V)} {k : NestedKey} {b : Addr} {Q : Unit → Shared → Prop} (hu : A.units + 9 < cLine) (I : Inv X pins σ H s) (e : H a = some (NDo X.w a xs)) (ks : KsOk H xs) (hk : KRep H (.ref b) k) (dk : k.depth ≤ 8) (hl : xs.length < sizeLine) (rv : RelV v r) (h : ∀ s', Inv X pins σ (upd H a (NDo X.w a (storeN xs k b v))) s' → Q () s') :
    wpAny (model X.prog X.w) A (setItem (.ref a) (.ref b) r) Q E s := by
  obtain ⟨z, hd, ys, p, dd⟩ := nd_of I.hok (.inl e) ks
  have hz : ys.length ≤ sizeLine := by rw [← Paired.length p]; exact z
  refine wpAny_setItem_heap (hsz := hz) (knd := nestedKind X.prog X.w) (show A.units + 1 + 8 < cLine from hu) ⟨kis I.hok k hk rfl, dk⟩ dd fun h' dd' hs => h _ ?_
  obtain ⟨q, es, ep, hq, h2, h3, h4, _, h5⟩ := dd'
  have sl : (storeN xs k b v).length ≤ sizeLine := by
    unfold storeN
    split
    · rw [List.length_map]; omega
    · rw [List.length_append]; simp; omega
  refine d_write I (by rw [e]; exact True.intro) hs ⟨q, hq⟩ ?_
  exact ⟨⟨sl, hd, _, NPair.put p rv, q, es, ep, hq, h2, h3, h4, h5⟩, ⟨q, hq⟩, fun h1 h2 n k => n.keeps k⟩
end
end VL

namespace VL
open PySem PySem.Spec
open PyProof.Rows L2
open Evl (Ex sz_of)

/-! ### own operators: a | b, a - b, ~a, x in a -/
structure OwnBin (K : PySem.W.Frag) (C f : Addr) (nm : String) : Prop where
  at_ : PySem.W.findIn K (.ref C) (PySem.dunder nm) = some (some (.ref f))
  isF : PySem.W.isFn K (.ref f) = true
  first : PySem.W.selfFirst K C = true
structure OwnUn (K : PySem.W.Frag) (C f : Addr) (nm : Str) : Prop where
  at_ : PySem.W.findIn K (.ref C) nm = some (some (.ref f))
  isF : PySem.W.isFn K (.ref f) = true
/-- both are instances of the class at C; what comes is an object -/
def rBinO (C : Addr) (sp : Sp) (E : XK) : R2 := fun x y H Q => ∃ a b dx dy fs gs, x = .ref a ∧ y = .ref b ∧ H a = some (.ins C dx fs) ∧ H b = some (.ins C dy gs) ∧ sp [x, y] H (fun v H' => (∃ p, v = .ref p) ∧ Q v H') E
def rInvO (C : Addr) (sp : Sp) (E : XK) : V → Hp → VK → Prop := fun x H Q => ∃ a dx fs, x = .ref a ∧ H a = some (.ins C dx fs) ∧ sp [x] H Q E
/-- the thing, then where it is looked for -/
def rInO (C : Addr) (sp : Sp) (E : XK) (neg : Bool) : R2 := fun y x H Q => ∃ a dx fs, x = .ref a ∧ H a = some (.ins C dx fs) ∧ sp [x, y] H (fun v H' => ∃ t, v = .bl t ∧ Q (.bl (if neg = true then !t else t)) H') E
section
variable {X : Cx} {CX : CXT} {E : XK} {k : Nat} {f C : Addr} {ps : List Str} {sp : Sp}
theorem op_binO {op : Operator} (O : OkAt X.prog X.w X.K X.mg X.base CX k f ps sp) (c : OwnBin X.K C f op.info.2) (hx : Passes CX X E) (hr : Room k X.A) : OpR X (binaryOp op) (rBinO C sp E) := by
  obtain ⟨fd, F, B, _⟩ := O.ok
  intro pns s σ H x y v u Q inv rx ry got
  obtain ⟨a, b, dx, dy, fs, gs, ex, ey, ha, hb, h⟩ := got
  subst ex ey
  cases rx
  cases ry
  obtain ⟨mA, JA, _⟩ := ins_get inv.hok ha
  obtain ⟨mB, JB, _⟩ := ins_get inv.hok hb
  obtain ⟨oa, IA, _⟩ := JA.look
  obtain ⟨ob, IB, _⟩ := JB.look
  obtain ⟨m, fr⟩ := inv.fr
  have rel : Vals [V.ref a, V.ref b] [Value.ref a, Value.ref b] := .cons (show RelV (V.ref a) (Value.ref a) from rfl) (.cons (show RelV (V.ref b) (Value.ref b) from rfl) .nil)
  refine PySem.W.binop_K fr inv.ok.mod.kin IA IB.type c.first c.at_ c.isF (thn (run_own inv.env0.frames F hr B hx inv rel h) fun w s' out => ?_)
  obtain ⟨z, H', I', rz, ⟨p, ez⟩, q⟩ := out
  subst ez
  cases rz
  exact ⟨.ref p, H', I', rfl, q⟩
theorem un_invO (O : OkAt X.prog X.w X.K X.mg X.base CX k f ps sp) (c : OwnUn X.K C f "__invert__") (hx : Passes CX X E) (hr : Room k X.A) : UnR X (unaryOp .Invert) (rInvO C sp E) := by
  obtain ⟨fd, F, B, _⟩ := O.ok
  intro pns s σ H x v Q inv rx got
  obtain ⟨a, dx, fs, ex, ha, h⟩ := got
  subst ex
  cases rx
  obtain ⟨mA, JA, _⟩ := ins_get inv.hok ha
  obtain ⟨oa, IA, _⟩ := JA.look
  obtain ⟨m, fr⟩ := inv.fr
  have rel : Vals [V.ref a] [Value.ref a] := .cons (show RelV (V.ref a) (Value.ref a) from rfl) .nil
  exact PySem.W.ksp_inv fr inv.ok.mod.kin IA c.at_ c.isF (run_own inv.env0.frames F hr B hx inv rel h)
theorem op_inO (O : OkAt X.prog X.w X.K X.mg X.base CX k f ps sp) (c : OwnUn X.K C f "__contains__") (hx : Passes CX X E) (hr : Room k X.A) : OpR X (compareOp .In) (rInO C sp E false) := by
  obtain ⟨fd, F, B, _⟩ := O.ok
  intro pns s σ H x y v u Q inv rx ry got
  obtain ⟨a, dx, fs, ex, ha, h⟩ := got
  subst ex
  cases ry
  obtain ⟨mA, JA, _⟩ := ins_get inv.hok ha
  obtain ⟨oa, IA, _⟩ := JA.look
  obtain ⟨m, fr⟩ := inv.fr
  have rel : Vals [V.ref a, x] [Value.ref a, v] := .cons (show RelV (V.ref a) (Value.ref a) from rfl) (.cons rx .nil)
  refine PySem.W.in_K fr inv.ok.mod.kin IA c.at_ c.isF (thn (run_own inv.env0.frames F hr B hx inv rel h) fun w s' out => ?_)
  obtain ⟨z, H', I', rz, t, ez, q⟩ := out
  subst ez
  cases rz
  exact wpAny_truthy_bool ⟨.bl t, H', I', rfl, by simpa using q⟩
theorem op_notInO (O : OkAt X.prog X.w X.K X.mg X.base CX k f ps sp) (c : OwnUn X.K C f "__contains__") (hx : Passes CX X E) (hr : Room k X.A) : OpR X (compareOp .NotIn) (rInO C sp E true) := by
  obtain ⟨fd, F, B, _⟩ := O.ok
  intro pns s σ H x y v u Q inv rx ry got
  obtain ⟨a, dx, fs, ex, ha, h⟩ := got
  subst ex
  cases ry
  obtain ⟨mA, JA, _⟩ := ins_get inv.hok ha
  obtain ⟨oa, IA, _⟩ := JA.look
  obtain ⟨m, fr⟩ := inv.fr
  have rel : Vals [V.ref a, x] [Value.ref a, v] := .cons (show RelV (V.ref a) (Value.ref a) from rfl) (.cons rx .nil)
  refine PySem.W.notIn_K fr inv.ok.mod.kin IA c.at_ c.isF (thn (run_own inv.env0.frames F hr B hx inv rel h) fun w s' out => ?_)
  obtain ⟨z, H', I', rz, t, ez, q⟩ := out
  subst ez
  cases rz
  exact wpAny_truthy_bool ⟨.bl (!t), H', I', rfl, by simpa using q⟩
end
/-! at the value layer -/
def isObj : O → Bool
  | .val (.ins _ _) => true
  | .ins _ _ => true
  | _ => false
/-- what comes back is an object -/
def chkO (r : Option (Res × Rho)) : Option (Res × Rho) := match r with
  | some (.ok o, ρ) => if isObj o then some (.ok o, ρ) else none
  | r => r
/-- what comes back is a truth value -/
def chkB (neg : Bool) (r : Option (Res × Rho)) : Option (Res × Rho) := match r with
  | some (.ok (.val (.bl t)), ρ) => some (.ok (.val (.bl (if neg = true then !t else t))), ρ)
  | some (.ex c f, ρ) => some (.ex c f, ρ)
  | _ => none
def mBinO (c : Nat) (fn : Fn) (a b : M) : M := fun ρ => bnd (a ρ) fun o ρ1 => bnd (b ρ1) fun i ρ2 => match o.frz, i.frz with
  | .ins c1 fs, .ins c2 gs => if c1 = c ∧ c2 = c then chkO (onData fn [.ins c1 fs, .ins c2 gs] ρ2) else none
  | _, _ => none
def mInvO (c : Nat) (fn : Fn) (a : M) : M := fun ρ => bnd (a ρ) fun o ρ1 => match o.frz with
  | .ins c1 fs => if c1 = c then onData fn [.ins c1 fs] ρ1 else none
  | _ => none
def mInO (c : Nat) (fn : Fn) (neg : Bool) (a b : M) : M := fun ρ => bnd (a ρ) fun i ρ1 => bnd (b ρ1) fun o ρ2 => match o.frz with
  | .ins c1 fs => if c1 = c then chkB neg (onData fn [.ins c1 fs, i.frz] ρ2) else none
  | _ => none
section
variable {G : Cn} {E E1 : XK} {ta tb : TE} {ma mb : M} {fn : Fn} {n c : Nat} {F H : Hp} {σ : L2.St} {ρ : Rho} {α : Al} {Q : VK} {r : Option (Res × Rho)}
theorem Post.obj (h : Post G E F H σ α (chkO r) Q) : Post G E F H σ α r (fun v H' => (∃ p, v = .ref p) ∧ Q v H') := by
  match r, h with
  | none, h => exact h
  | some (.ex c none, _), h => exact h
  | some (.ex c (some fs), _), h => exact h
  | some (.ok o, ρ), h =>
    unfold chkO at h
    by_cases q : isObj o = true
    · simp only [q, if_true] at h
      intro v F' H' α' β S R T M N
      refine ⟨?_, h v F' H' α' β S R T M N⟩
      cases o with
      | val d =>
        cases d with
        | ins c fs =>
          obtain ⟨_, R⟩ := R
          unfold Rep at R
          obtain ⟨a, _, _, e, _⟩ := R
          exact ⟨a, e⟩
        | _ => cases q
      | ins c fs =>
        obtain ⟨a, _, _, e, _⟩ := R
        exact ⟨a, e⟩
      | _ => cases q
    · simp only [q] at h
      exact h.elim
theorem Post.bool {neg : Bool} (h : Post G E F H σ α (chkB neg r) Q) : Post G E F H σ α r (fun v H' => ∃ t, v = .bl t ∧ Q (.bl (if neg = true then !t else t)) H') := by
  match r, h with
  | none, h => exact h
  | some (.ex c none, _), h => exact h
  | some (.ex c (some fs), _), h => exact h
  | some (.ok (.val (.bl t)), ρ), h =>
    intro v F' H' α' β S R T M N
    obtain ⟨e, R⟩ := R
    unfold Rep at R
    exact ⟨t, R, h _ F' H' α' β S ⟨e, Rep.ofBl⟩ T M N⟩
  | some (.ok (.val .non), ρ), h => exact h.elim
  | some (.ok (.val (.int _)), ρ), h => exact h.elim
  | some (.ok (.val (.str _)), ρ), h => exact h.elim
  | some (.ok (.val (.tup _)), ρ), h => exact h.elim
  | some (.ok (.val (.lst _)), ρ), h => exact h.elim
  | some (.ok (.val (.dic _)), ρ), h => exact h.elim
  | some (.ok (.val (.ins _ _)), ρ), h => exact h.elim
  | some (.ok (.val (.scr _)), ρ), h => exact h.elim
  | some (.ok (.val (.dcn _)), ρ), h => exact h.elim
  | some (.ok (.val (.cls _)), ρ), h => exact h.elim
  | some (.ok (.val .emp), ρ), h => exact h.elim
  | some (.ok (.lst _), ρ), h => exact h.elim
  | some (.ok (.dic _), ρ), h => exact h.elim
  | some (.ok (.ins _ _), ρ), h => exact h.elim
  | some (.ok (.ll _), ρ), h => exact h.elim
  | some (.ok (.dcn _), ρ), h => exact h.elim
  | some (.ok (.tr _), ρ), h => exact h.elim
theorem sem_binO (hE : E1 = E ∨ ∀ os c f os', fn os ≠ some (.ex c f, os')) (hl : ∀ os r, fn os = some r → os.length = n) (ha : Sem G E ta ma) (hb : Sem G E tb mb) : Sem G E (tOp (rBinO (G.cls c) (spF G fn n) E1) ta tb) (mBinO c fn ma mb) := ⟨fun {F H σ ρ α Q} S h =>
  ha.run S (Post.to h fun o ρ1 v F1 H1 α1 S1 r1 T1 N1 h1 => hb.run S1 (Post.to (Post.shift T1 N1 h1) fun i ρ2 u F2 H2 α2 S2 r2 T2 N2 h2 => by
    split at h2
    · rename_i c1 fs c2 gs e1 e2
      rw [e1] at r1
      rw [e2] at r2
      split at h2
      · rename_i hc
        obtain ⟨hc1, hc2⟩ := hc
        subst hc1
        rw [hc2] at r2 h2
        have r1' := r1.mono T2.exF
        have r1'' := r1'
        have r2' := r2
        unfold Rep at r1' r2'
        obtain ⟨a, dx, fvs, ev, e1, e2⟩ := r1'
        obtain ⟨b, dy, gvs, ew, e3, e4⟩ := r2'
        refine ⟨a, b, dx, dy, fvs, gvs, ev, ew, S2.ex.x e1, S2.ex.x e3, ?_⟩
        exact spF_data hE hl S2 (Reps.cons r1'' (Reps.one r2)) (Post.obj (Post.shift T2 N2 h2))
      · exact h2.elim
    · exact h2.elim))⟩
theorem sem_invO (hE : E1 = E ∨ ∀ os c f os', fn os ≠ some (.ex c f, os')) (hl : ∀ os r, fn os = some r → os.length = n) (ha : Sem G E ta ma) : Sem G E (tUn (rInvO (G.cls c) (spF G fn n) E1) ta) (mInvO c fn ma) := ⟨fun {F H σ ρ α Q} S h =>
  ha.run S (Post.to h fun o ρ1 v F1 H1 α1 S1 r1 T1 N1 h1 => by
    split at h1
    · rename_i c1 fs e1
      rw [e1] at r1
      split at h1
      · rename_i hc
        subst hc
        have r1' := r1
        unfold Rep at r1'
        obtain ⟨a, dx, fvs, ev, e1, e2⟩ := r1'
        exact ⟨a, dx, fvs, ev, S1.ex.x e1, spF_data hE hl S1 (Reps.one r1) (Post.shift T1 N1 h1)⟩
      · exact h1.elim
    · exact h1.elim)⟩
theorem sem_inO {neg : Bool} (hE : E1 = E ∨ ∀ os c f os', fn os ≠ some (.ex c f, os')) (hl : ∀ os r, fn os = some r → os.length = n) (ha : Sem G E ta ma) (hb : Sem G E tb mb) : Sem G E (tOp (rInO (G.cls c) (spF G fn n) E1 neg) ta tb) (mInO c fn neg ma mb) := ⟨fun {F H σ ρ α Q} S h =>
  ha.run S (Post.to h fun i ρ1 u F1 H1 α1 S1 r1 T1 N1 h1 => hb.run S1 (Post.to (Post.shift T1 N1 h1) fun o ρ2 v F2 H2 α2 S2 r2 T2 N2 h2 => by
    split at h2
    · rename_i c1 fs e1
      rw [e1] at r2
      split at h2
      · rename_i hc
        subst hc
        have r2' := r2
        unfold Rep at r2'
        obtain ⟨a, dx, fvs, ev, e1, e2⟩ := r2'
        exact ⟨a, dx, fvs, ev, S2.ex.x e1, spF_data hE hl S2 (Reps.cons r2 (Reps.one (r1.mono T2.exF))) (Post.bool (Post.shift T2 N2 h2))⟩
      · exact h2.elim
    · exact h2.elim))⟩
end
end VL

namespace VL
open PySem PySem.Spec
open PyProof.Rows L2
open Evl (Ex sz_of)

/-! ### x in xs, data of any depth -/
def rInDT (K : PySem.W.Frag) (neg : Bool) : R2 := fun x y H Q => ∃ d ds, Dp K H x d ∧ (Dp K H y (.list ds) ∨ Dp K H y (.tuple ds)) ∧ SeqAt.shaped d = true ∧ SeqAt.shaped (.list ds) = true ∧ Q (.bl (if neg = true then !(ds.any fun z => PyData.eqv z d) else ds.any fun z => PyData.eqv z d)) H
section
variable {X : Cx}
theorem op_inDT (hu : X.A.units + 65 < cLine) : OpR X (compareOp .In) (rInDT X.K false) := by
  intro pins s σ H x y v u Q I rx ry h
  obtain ⟨d, ds, hd, he, sd, se, q⟩ := h
  obtain ⟨as, r1⟩ := Dp.reads I d x v hd rx
  have cl := SeqAt.canLay_of_shaped (d := .list ds) se
  have fin : EP X pins σ Q (.bool (ds.any fun z => PyData.eqv z d)) s := ⟨.bl _, H, I, rfl, by simpa using q⟩
  rcases he with he | he
  · obtain ⟨bs, r2⟩ := Dp.reads I (.list ds) y u he ry
    exact SeqAt.in_list_reads r2 r1 cl (SeqAt.canLay_of_shaped sd) (room_in_shaped sd hu) fin
  · obtain ⟨bs, r2⟩ := Dp.reads I (.tuple ds) y u he ry
    exact SeqAt.in_tuple_reads r2 r1 cl (SeqAt.canLay_of_shaped sd) (room_in_shaped sd hu) fin
theorem op_notInDT (hu : X.A.units + 65 < cLine) : OpR X (compareOp .NotIn) (rInDT X.K true) := by
  intro pins s σ H x y v u Q I rx ry h
  obtain ⟨d, ds, hd, he, sd, se, q⟩ := h
  obtain ⟨as, r1⟩ := Dp.reads I d x v hd rx
  have cl := SeqAt.canLay_of_shaped (d := .list ds) se
  have fin : EP X pins σ Q (.bool (!ds.any fun z => PyData.eqv z d)) s := ⟨.bl _, H, I, rfl, by simpa using q⟩
  rcases he with he | he
  · obtain ⟨bs, r2⟩ := Dp.reads I (.list ds) y u he ry
    exact SeqAt.notIn_list_reads r2 r1 cl (SeqAt.canLay_of_shaped sd) (room_in_shaped sd hu) fin
  · obtain ⟨bs, r2⟩ := Dp.reads I (.tuple ds) y u he ry
    exact SeqAt.notIn_tuple_reads r2 r1 cl (SeqAt.canLay_of_shaped sd) (room_in_shaped sd hu) fin
end
def fInDT (neg : Bool) (x y : D) : Option O := match toPy x, toPy y with
  | some p, some (.list ps) => if SeqAt.shaped p && SeqAt.shaped (.list ps) then some (.val (.bl (if neg = true then !(ps.any fun z => PyData.eqv z p) else ps.any fun z => PyData.eqv z p))) else none
  | some p, some (.tuple ps) => if SeqAt.shaped p && SeqAt.shaped (.list ps) then some (.val (.bl (if neg = true then !(ps.any fun z => PyData.eqv z p) else ps.any fun z => PyData.eqv z p))) else none
  | _, _ => none
section
variable {G : Cn}
theorem os_inDT {neg : Bool} : OSem G (rInDT G.K neg) (fInDT neg) := fun {E F H σ ρ α Q x y dx dy} S hx hy h => by
  unfold fInDT at h
  split at h
  · rename_i p ps e1 e2
    split at h
    · rename_i hs
      rw [Bool.and_eq_true] at hs
      exact ⟨p, ps, hx.dp S.ex e1, .inl (hy.dp S.ex e2), hs.1, hs.2, Post.val h S Rep.ofBl⟩
    · exact h.elim
  · rename_i p ps e1 e2
    split at h
    · rename_i hs
      rw [Bool.and_eq_true] at hs
      exact ⟨p, ps, hx.dp S.ex e1, .inr (hy.dp S.ex e2), hs.1, hs.2, Post.val h S Rep.ofBl⟩
    · exact h.elim
  · exact h.elim
end
/-! all that is asked by in -/
abbrev rInB (K : PySem.W.Frag) (neg : Bool) : R2 := fun x y H Q => rInA K neg x y H Q ∨ rInDT K neg x y H Q
def fInB (neg : Bool) : D → D → Option O := fOr (fInA neg) (fInDT neg)
theorem os_inB {G : Cn} {neg : Bool} : OSem G (rInB G.K neg) (fInB neg) := os_or os_inA os_inDT

/-! ### is, is not, of truth values -/
abbrev rIsB (neg : Bool) : R2 := fun x y H Q => ∃ a b, x = .bl a ∧ y = .bl b ∧ Q (.bl (if neg = true then !decide (a = b) else decide (a = b))) H
def fIsB (neg : Bool) (x y : D) : Option O := match x, y with
  | .bl a, .bl b => some (.val (.bl (if neg = true then !decide (a = b) else decide (a = b))))
  | _, _ => none
theorem op_isB {X : Cx} : OpR X (compareOp .Is) (rIsB false) := fun pins s σ H x y v u Q I rx ry ⟨a, b, e1, e2, q⟩ => op_is_bl pins s σ H x y v u Q I rx ry ⟨a, b, e1, e2, by simpa using q⟩
theorem op_isNotB {X : Cx} : OpR X (compareOp .IsNot) (rIsB true) := fun pins s σ H x y v u Q I rx ry ⟨a, b, e1, e2, q⟩ => op_isnot_bl pins s σ H x y v u Q I rx ry ⟨a, b, e1, e2, by simpa using q⟩
theorem os_isB {G : Cn} {neg : Bool} : OSem G (rIsB neg) (fIsB neg) := fun {E F H σ ρ α Q x y dx dy} S hx hy h => by
  unfold fIsB at h
  split at h
  · exact ⟨_, _, hx.bl, hy.bl, Post.val h S Rep.ofBl⟩
  · exact h.elim

/-! ### tuples of ints, one before the other -/
def fLtT (x y : D) : Option O := match x, y with
  | .tup ds, .tup es => (match intsD ds, intsD es with
    | some ns, some ms => some (.val (.bl (HT.lexLt ns ms)))
    | _, _ => none)
  | _, _ => none
theorem os_ltT {G : Cn} : OSem G (rLtT G.K) fLtT := fun {E F H σ ρ α Q x y dx dy} S hx hy h => by
  unfold fLtT at h
  split at h
  · rename_i ds es
    obtain ⟨a, vs, rfl, h0, h1, h2⟩ := hx.t S.ex
    obtain ⟨b, ws, rfl, h3, h4, h5⟩ := hy.t S.ex
    split at h
    · rename_i ns ms e1 e2
      obtain rfl := intsD_reps h2 e1
      obtain rfl := intsD_reps h5 e2
      exact ⟨a, b, ns, ms, rfl, rfl, SqT.of h1, SqT.of h4, Post.val h S Rep.ofBl⟩
    · exact h.elim
  · exact h.elim
end VL

namespace VL
open PySem PySem.Spec
open PyProof.Rows L2
open Evl (Ex sz_of)

/-! ### sorted, of pairs of ints -/
section
variable {T : Type} {lt : T → T → Bool}
def pins (lt : T → T → Bool) (y : T) : List T → List T
  | [] => [y]
  | x :: r => if lt y x = true then y :: x :: r else x :: pins lt y r
def psort (lt : T → T → Bool) (l : List T) : List T := l.foldl (fun acc y => pins lt y acc) []
theorem pins_cut (O : SrtO.Swo lt) (y : T) : ∀ l : List T, SrtO.Srtd lt l → ∃ M N, l = M ++ N ∧ pins lt y l = M ++ y :: N ∧ (∀ x ∈ M, lt y x = false) ∧ ∀ x ∈ N, lt y x = true
  | [], _ => ⟨[], [], rfl, rfl, (fun _ h => by cases h), fun _ h => by cases h⟩
  | x :: r, h => by
    cases q : lt y x with
    | true => exact ⟨[], x :: r, rfl, by simp [pins, q], (fun _ h => by cases h), O.lt_all h q⟩
    | false =>
      obtain ⟨M, N, e, p, h1, h2⟩ := pins_cut O y r (List.pairwise_cons.mp h).2
      refine ⟨x :: M, N, by rw [e]; rfl, by simp [pins, q, p], fun z hz => ?_, h2⟩
      rcases List.mem_cons.mp hz with e | hz
      · rw [e]; exact q
      · exact h1 z hz
theorem psort_go (O : SrtO.Swo lt) : ∀ (l acc o : List T), SrtO.Srtd lt acc → SrtO.Stb lt acc o → SrtO.Srtd lt (l.foldl (fun acc y => pins lt y acc) acc) ∧ SrtO.Stb lt (l.foldl (fun acc y => pins lt y acc) acc) (o ++ l)
  | [], acc, o, h1, h2 => ⟨h1, by rw [List.append_nil]; exact h2⟩
  | y :: l, acc, o, h1, h2 => by
    obtain ⟨M, N, e, p, g1, g2⟩ := pins_cut O y acc h1
    have e2 : o ++ y :: l = (o ++ [y]) ++ l := by simp
    rw [List.foldl_cons, p, e2]
    subst e
    exact psort_go O l _ _ (SrtO.ins_srtd O h1 g1 g2) (SrtO.ins_stb O g2 h2)
theorem psort_srtd (O : SrtO.Swo lt) (l : List T) : SrtO.Srtd lt (psort lt l) := (psort_go O l [] [] .nil (SrtO.Stb.refl _)).1
theorem psort_stb (O : SrtO.Swo lt) (l : List T) : SrtO.Stb lt (psort lt l) l := by
  have := (psort_go O l [] [] .nil (SrtO.Stb.refl _)).2
  simpa [psort] using this
end
def pairD : D → Option (Int × Int)
  | .tup [.int a, .int b] => some (a, b)
  | _ => none
def keyP (d : D) : Int × Int := (pairD d).getD (0, 0)
def ltD (d e : D) : Bool := SrtO.lexB (keyP d) (keyP e)
def fSortP : List D → Option O
  | [.lst ds] => if ds.all (fun d => (pairD d).isSome) = true then some (.lst (psort ltD ds)) else none
  | _ => none
/-- the pair that a value is -/
def keyV (H : Hp) : V → Int × Int
  | .ref t => (match H t with
    | some (.tup [.int a, .int b]) => (a, b)
    | _ => (0, 0))
  | _ => (0, 0)
section
variable {G : Cn} {F H : Hp} {σ : L2.St} {ρ : Rho} {α : Al}
theorem pair_rep {v : V} {d : D} (h : Rep G F v d) (e : (pairD d).isSome = true) (x : Lx F H) : ∃ t, v = .ref t ∧ H t = some (.tup [.int (keyV H v).1, .int (keyV H v).2]) ∧ keyV H v = keyP d := by
  unfold pairD at e
  split at e
  · rename_i a b
    unfold Rep at h
    obtain ⟨t, vs, rfl, h1, h2⟩ := h
    obtain ⟨v1, r1, rfl, q1, h3⟩ := h2.of_cons
    obtain ⟨v2, r2, rfl, q2, h4⟩ := h3.of_cons
    obtain rfl := h4.of_nil
    obtain rfl := q1.toInt
    obtain rfl := q2.toInt
    have e1 := x.x h1
    have e2 : keyV H (.ref t) = (a, b) := by simp [keyV, e1]
    exact ⟨t, rfl, by rw [e2]; exact e1, by rw [e2]; rfl⟩
  · cases e
/-- both lists side by side -/
def SdP (G : Cn) (F H : Hp) : List V → List D → Prop := Paired fun v d => Rep G F v d ∧ keyV H v = keyP d
theorem sdP_of (x : Lx F H) : ∀ {vs : List V} {ds : List D}, Reps G F vs ds → ds.all (fun d => (pairD d).isSome) = true → SdP G F H vs ds
  | _, [], h, _ => by
    rw [h.of_nil]
    exact .nil
  | _, d :: ds, h, e => by
    obtain ⟨v, r, rfl, h1, h2⟩ := h.of_cons
    rw [List.all_cons, Bool.and_eq_true] at e
    obtain ⟨t, _, _, q⟩ := pair_rep h1 e.1 x
    exact .cons ⟨h1, q⟩ (sdP_of x h2 e.2)
theorem SdP.reps : ∀ {vs : List V} {ds : List D}, SdP G F H vs ds → Reps G F vs ds
  | _, _, .nil => .nil
  | _, _, .cons h t => .cons h.1 (SdP.reps t)
theorem SdP.pins {y : V} {e : D} (h : Rep G F y e ∧ keyV H y = keyP e) : ∀ {vs : List V} {ds : List D}, SdP G F H vs ds → SdP G F H (pins (ltP (keyV H)) y vs) (pins ltD e ds)
  | _, _, .nil => .cons h .nil
  | _, _, .cons (a := v) (b := d) q t => by
    have z : ltP (keyV H) y v = ltD e d := by
      show SrtO.lexB _ _ = SrtO.lexB _ _
      rw [h.2, q.2]
    unfold VL.pins
    rw [z]
    split
    · exact .cons h (.cons q t)
    · exact .cons q (SdP.pins h t)
theorem SdP.fold : ∀ {vs : List V} {ds : List D} {va : List V} {da : List D}, SdP G F H vs ds → SdP G F H va da → SdP G F H (vs.foldl (fun acc y => VL.pins (ltP (keyV H)) y acc) va) (ds.foldl (fun acc y => VL.pins ltD y acc) da)
  | [], [], _, _, _, a => a
  | v :: vs, d :: ds, _, _, h, a => by
    have h' : Paired (fun v d => Rep G F v d ∧ keyV H v = keyP d) (v :: vs) (d :: ds) := h
    cases h' with
    | cons q t => exact SdP.fold (vs := vs) (ds := ds) t (SdP.pins q a)
  | [], _ :: _, _, _, h, _ => nomatch (show Paired _ [] (_ :: _) from h)
  | _ :: _, [], _, _, h, _ => nomatch (show Paired _ (_ :: _) [] from h)
theorem cs_sortP : CSem G (rSortedPO G.K) fSortP := fun {E F H σ ρ α Q vs ds} S hv h => by
  unfold fSortP at h
  split at h
  · rename_i ds0
    obtain ⟨v, rfl, hx⟩ := hv.one
    obtain ⟨a, ws, rfl, h1, h2⟩ := hx.l S.ex
    split at h
    · rename_i hp
      have sd := sdP_of S.ex h2 hp
      refine ⟨a, ws, keyV H, rfl, SqL.of h1, fun w hw => ?_, fun ys p s1 s2 hp' => ?_⟩
      · obtain ⟨i, hi⟩ := List.mem_iff_getElem?.mp hw
        obtain ⟨d, hd, r⟩ := h2.get' hi
        obtain ⟨t, e1, e2, _⟩ := pair_rep r (List.all_eq_true.mp hp d (List.mem_of_getElem? hd)) S.ex
        exact ⟨t, e1, e2⟩
      · have O := ltP_swo (keyV H)
        have e : ys = psort (ltP (keyV H)) ws := SrtO.stb_uniq O s1 (psort_srtd O ws) (s2.trans ⟨(psort_stb O ws).perm.symm, fun x => ((psort_stb O ws).cls x).symm⟩)
        subst e
        exact Post.newL h S hp' (SdP.reps (SdP.fold sd .nil))
    · exact h.elim
  · exact h.elim
end

/-! ### sorted of a tuple of ints -/
def rSortTI (K : PySem.W.Frag) : List V → Hp → VK → Prop := fun vs H Q => ∃ (a : Addr) (ns : List Int), vs = [.ref a] ∧ SqT K H a (ns.map V.int) ∧ ∀ (ns' : List Int) (p : Addr), ns'.Perm ns → ns'.Pairwise (· ≤ ·) → H p = none → Q (.ref p) (upd H p (.lst (ns'.map V.int)))
theorem cr_sortTI {X : Cx} : CallR X (.builtin "sorted") (rSortTI X.K) := by
  intro pins s σ H vs us Q I r got
  obtain ⟨a, ns, ex, ht, q⟩ := got
  subst ex
  obtain ⟨u, eu, ru⟩ := vals1 r
  subst eu
  cases ru
  obtain ⟨its, rv, ⟨o, ho, hc, n, hd⟩, hz⟩ := I.tuple ht
  have hI : IntsAre its ns := by simpa using intsAre_of rv
  have hL : its.length ≤ sizeLine := by rw [← rv.length]; exact hz
  refine Calls.call_function_entry PyProof.Rows.kind_sorted PyProof.Rows.plain_sorted PyProof.Rows.entry_sorted (PyProof.Rows.args_sorted1 _) ?_
  unfold Builtin.«sorted»
  refine wpAny_bind (m := checkCount "sorted" 1 1 _) (wpAny_pure (wpAny_bind ?_))
  refine wpAny_collect_seq (T := "tuple") a (.inr rfl) ho hc hd (fun h' k => ?_) (by simpa using hL)
  refine wpAny_bind (wpAny_newList ?_ (by simpa using hL))
  obtain ⟨hp, ehp⟩ : ∃ hp, hp = h'.push (seqObj "list" its.toArray 0) := ⟨_, rfl⟩
  have at_ : hp.get? h'.objs.size = some (seqObj "list" its.toArray 0) := by rw [ehp]; exact Heap.get?_push_size _ rfl
  have e0 : ({ cls := .type "list", data := .seq its.toArray.toList.toArray } : Obj) = seqObj "list" its.toArray 0 := by simp [seqObj]
  have up : ∀ b u, h'.get? b = some u → hp.get? b = some u ∧ b ≠ h'.objs.size := fun b u e => ⟨by rw [ehp]; exact Heap.get?_push_of_some _ e, Nat.ne_of_lt (Heap.lt_size e)⟩
  have I1 : Inv X pins σ H { s with heap := h' } := I.kept (t' := s.toks) k
  have go : wpAny (model X.prog X.w) X.A.in1 (call (.builtin "list.sort") [.ref h'.objs.size]) (fun _ s' => EP X pins σ Q (.ref h'.objs.size) s') X.xe { s with heap := hp } := by
    refine wpAny_call_entry PyProof.Rows.slot_list_sort ⟨_, at_, rfl⟩ PyProof.Rows.entry_list_sort (PyProof.Rows.list_sort_treeAny (vs := its) at_ hI hL fun out ys g1 g2 g3 => ⟨_, rfl, ?_⟩) (PyProof.Rows.args_list_sort _)
    obtain ⟨e', he'⟩ := PyProof.Rows.sortedHeap_at (vs := its) (out := out) at_
    have len : (ys.map V.int).length ≤ sizeLine := by
      rw [List.length_map, g2.length_eq, ← IntsAre.length hI]
      exact hL
    refine ⟨.ref h'.objs.size, upd H h'.objs.size (.lst (ys.map V.int)), I1.laid (t' := s.toks) (fun b u e => ?_) (Nat.le_refl _) ⟨len, out.toList, e', vals_of_ints g1, by rw [Array.toArray_toList]; exact he'⟩, rfl, q ys _ g2 g3 (I1.hok.fresh (Nat.le_refl _))⟩
    obtain ⟨u1, u2⟩ := up b u e
    rw [PyProof.Rows.sortedHeap_old u2 (Heap.lt_size u1)]
    exact u1
  refine wpAny_bind (wpAny_holding ?_)
  rw [ehp] at go
  exact thn go fun v s' z => wpAny_pure ⟨_, rfl, z⟩
def fSortTI : List D → Option O
  | [.tup ds] => (intsD ds).map fun ns => .lst ((isort ns).map .int)
  | _ => none
theorem cs_sortTI {G : Cn} : CSem G (rSortTI G.K) fSortTI := fun {E F H σ ρ α Q vs ds} S hv h => by
  unfold fSortTI at h
  split at h
  · rename_i ds0
    obtain ⟨v, rfl, hx⟩ := hv.one
    obtain ⟨a, ws, rfl, h0, h1, h2⟩ := hx.t S.ex
    cases q : intsD ds0 with
    | none => rw [q] at h; exact h.elim
    | some ns =>
      rw [q] at h
      refine ⟨a, ns, rfl, by rw [← intsD_reps h2 q]; exact SqT.of h1, fun ns' p pm up hp => ?_⟩
      rw [isort_only pm up]
      exact Post.newL h S hp (reps_ints (isort ns))
  · exact h.elim
end VL

namespace VL
open PySem PySem.Spec
open PyProof.Rows L2
open Evl (Ex sz_of)

/-! ### set of a tuple, whatever its items are -/
def set0 (w : World) : Obj := { cls := .type "set", dict := none, data := .set #[] 0 (.fresh 0 0 (!w.params.followText "set-order")) }
def tupIt (l : Addr) : Obj := { cls := .type "tuple_iterator", data := .fields #[.ref l, .int 0 0] }
section
variable {P : Program} {w : World} {A : Around} {E : Value → Shared → Prop} {s : Shared}
/-- what set.__init__ does with a tuple: its loop -/
theorem init_tuple {l : Addr} {items : Array Value} {S I : Addr} {Z : Shared → Prop} {R : PySem.Fin → Shared → Prop} (hl : s.heap.IsTuple l items) (hS : s.heap.get? S = some (set0 w)) (eI : I = s.heap.objs.size)
    (loop : codeAny (model P w) A (.builtin "set.update.loop" ⟨[.ref S, .ref I], []⟩) (fun r s' => r = .ok (.ret .none) ∧ Z s') { s with heap := s.heap.push (tupIt l) }) (fin : ∀ s', Z s' → R (.done (.ret .none)) s') :
    wpAny (model P w) A (Builtin.«set.__init__» ⟨[.ref S, .ref l], []⟩) R E s := by
  subst eI
  obtain ⟨ol, h1, h2, n, h3⟩ := id hl
  cases ol with
  | mk c d dt sl =>
    simp only at h2 h3
    subst h2 h3
    have k1 := F.sub_tuple_set
    have k2 := F.sub_tuple_frozenset
    have k3 : (Value.type "tuple" == Value.type "dict") = false := by decide
    have hT : Shared.TypeIs s (.ref S) "set" := ⟨_, hS, rfl⟩
    unfold set0 at hS
    unfold Builtin.«set.__init__» noKeywords Builtin.Frozenset.updateFrom
    generalize e : pyIter = pI
    wp_walk
    subst e
    refine wpAny_pyIter_tuple hl (wpAny_bind (wpAny_runValue (codeAny_mono loop fun r s' z => ?_)))
    obtain ⟨z1, z2⟩ := z
    subst z1
    exact wpAny_pure (wpAny_pure (fin s' z2))
/-- set(t), t a tuple -/
theorem set_tuple {l : Addr} {items : Array Value} {Q : Value → Shared → Prop} {Z : Shared → Prop} (hl : s.heap.IsTuple l items)
    (loop : ∀ A' : Around, A'.handled = A.handled → A'.units ≤ A.units + 3 → codeAny (model P w) A' (.builtin "set.update.loop" ⟨[.ref s.heap.objs.size, .ref (s.heap.objs.size + 1)], []⟩) (fun r s' => r = .ok (.ret .none) ∧ Z s') { s with heap := (s.heap.push (set0 w)).push (tupIt l) })
    (fin : ∀ s', Z s' → Q (.ref s.heap.objs.size) s') : wpAny (model P w) A (call (.type "set") [.ref l]) Q E s := by
  have hS : (s.heap.push (set0 w)).get? s.heap.objs.size = some (set0 w) := Heap.get?_push_size _ rfl
  have hT : Shared.TypeIs { s with heap := s.heap.push (set0 w) } (.ref s.heap.objs.size) "set" := ⟨_, hS, rfl⟩
  have g1 := F.called_set.notType
  have g2 := F.called_set.canCreate
  have g3 := F.called_set.made
  have g4 := F.called_set.sub
  have g5 := F.typeCall_set_1 (.ref l)
  have g6 := F.called_set.init.lookup
  have g7 := F.called_set.init.bind (.ref s.heap.objs.size)
  obtain ⟨_, _, g8⟩ := F.called_set.mro
  have step : ∀ A' : Around, A'.handled = A.handled → A'.units ≤ A.units + 2 → codeAny (model P w) A' (.call (.builtin "set.__init__") ⟨[.ref s.heap.objs.size, .ref l], []⟩) (wants (fun r s' => r = .none ∧ Z s') E) { s with heap := s.heap.push (set0 w) } := fun A' a1 a2 => by
    refine codeAny_call_builtin F.called_set.init.plain F.entry_set_init (check_set_init_1 hT (init_tuple (Z := Z) (hl.push _) hS (by rw [Heap.size_push]) (loop _ ?_ ?_) fun s' z => ⟨rfl, z⟩))
    · simpa using a1
    · show A'.units + 1 ≤ A.units + 3
      omega
  refine wpAny_call (codeAny_of_tree ?_)
  show wpAny _ _ (callAny (.type "set") ⟨[.ref l], []⟩) _ _ _
  refine wpAny_pure ⟨Code.quiet_builtin _ (by decide +kernel), codeAny_builtin F.entry_type_call ?_⟩
  rw [Around.under_plain (weight_type_call_type "set" [.ref l] []) rfl]
  repeat (any_goals (first | assumption | wp_step))
  refine codeAny_mono (code_set_led1 (.ref l) (E := E) (Q₁ := fun u s' => u = .ref s.heap.objs.size ∧ s' = { s with heap := s.heap.push (set0 w) }) ⟨rfl, rfl⟩) fun r s1 z => ?_
  match r, z with
  | .error e, z => exact z
  | .ok .next, z => exact z.elim
  | .ok .brk, z => exact z.elim
  | .ok .cont, z => exact z.elim
  | .ok (.ret v), z =>
    obtain ⟨z1, z2⟩ := z
    subst z1 z2
    repeat (any_goals (first | assumption | wp_step))
    refine codeAny_mono (step A.in1 rfl (Nat.le_succ _)) fun r s2 z => ?_
    match r, z with
    | .error e, z => exact z
    | .ok .next, z => exact z.elim
    | .ok .brk, z => exact z.elim
    | .ok .cont, z => exact z.elim
    | .ok (.ret v), z =>
      obtain ⟨z1, z2⟩ := z
      subst z1
      have q := fin s2 z2
      repeat (any_goals (first | assumption | wp_step))
end
end VL

namespace VL
open PySem PySem.Spec
open PyProof.Rows L2
open Evl (Ex sz_of)

/-! ### sorted(set(t)), t a tuple of pairs of ints in [0, 64) -/
/-- set(t), t a tuple of tuples of ints -/
def rSetTT (K : PySem.W.Frag) (P : Program) (w : World) : List V → Hp → VK → Prop := fun xs H Q => ∃ (l : Addr) (ks : List (Addr × List Int)), xs = [.ref l] ∧ SqT K H l (ks.map fun p => V.ref p.1) ∧ (∀ p ∈ ks, SqT K H p.1 (p.2.map V.int)) ∧ ks.length < 64 ∧
  ∀ a L, H a = none → (∀ p ∈ L, p ∈ ks) → (∀ p ∈ ks, p.2 ∈ L.map (·.2)) → Q (.ref a) (upd H a (SetTO P w a L))
theorem cr_setTT {X : Cx} (hc : X.calm = true) (hu : X.A.units + 64 < cLine) : CallR X (.type "set") (rSetTT X.K X.prog X.w) := by
  intro pins s σ H xs us Q I r got
  obtain ⟨l, ks, ex, hl, hk, few, q⟩ := got
  subst ex
  rw [Vals.ref1 r]
  obtain ⟨its, rv, pl, hz⟩ := I.tuple hl
  have hit : its = ks.map fun p => Value.ref p.1 := refs_of_vals rv
  have hn : H s.heap.objs.size = none := I.hok.fresh (Nat.le_refl _)
  have len : its.toArray.size = ks.length := by rw [List.size_toArray, hit, List.length_map]
  have kp : ∀ b o, s.heap.get? b = some o → ((s.heap.push (set0 X.w)).push (tupIt l)).get? b = some o := fun b o e => Heap.get?_push_of_some _ (Heap.get?_push_of_some _ e)
  have none_of : ∀ b, s.heap.objs.size ≤ b → s.heap.get? b = none := fun b hb => by
    cases e : s.heap.get? b with
    | none => rfl
    | some o => exact absurd (Heap.lt_size e) (Nat.not_lt.mpr hb)
  have ne : l ≠ s.heap.objs.size + 1 := by
    obtain ⟨o, ho, _⟩ := pl
    exact Nat.ne_of_lt (Nat.lt_succ_of_lt (Heap.lt_size ho))
  refine set_tuple (items := its.toArray) (Z := fun s' => ∃ h' tk L es ep t, s' = { s with heap := h', toks := tk } ∧ SetTR X.prog X.w h' s.heap.objs.size L es ep t ∧ Got ks ks.length L ∧ ∀ b o, s.heap.get? b = some o → h'.get? b = some o) pl (fun A' a1 a2 => ?_) fun s' z => ?_
  · have hh : A'.in1.handled = none := by
      show A'.handled = none
      rw [a1]
      exact I.ok.hd hc
    have sz1 : (s.heap.push (set0 X.w)).objs.size = s.heap.objs.size + 1 := Heap.size_push ..
    have hlt : l < s.heap.objs.size := by
      obtain ⟨o, ho, _⟩ := pl
      exact Heap.lt_size ho
    refine set_update_tups ((Walks.tuple hh (s.heap.objs.size + 1) l ne its.toArray).toS) s.heap.objs.size (by
        simp only [List.mem_cons, List.mem_singleton, List.not_mem_nil, or_false, not_or]
        exact ⟨Nat.ne_of_lt (Nat.lt_succ_self _), Nat.ne_of_gt hlt⟩) ks len few (fun i v hv => ?_) s.heap (fun p hp => I.isT (hk p hp)) (none_of _ (Nat.le_refl _)) (fun b hb => none_of b (by
        rw [List.mem_singleton.mp hb]
        exact Nat.le_succ _)) (show A'.units + 1 < cLine by omega) its.toArray.size 0 _ (by omega) (Nat.zero_le _) ⟨⟨tupIt l, ?_, rfl, rfl⟩, ?_⟩ kp ⟨[], #[], 0, _, setTR_fresh (Heap.get?_push_of_some _ (Heap.get?_push_size _ rfl)), Got.zero ks⟩ fun s' L es ep t mv R g k => ?_
    · have e : its.toArray.toList[i]? = some v := by rw [Array.getElem?_toList]; exact hv
      rw [List.toList_toArray, hit, List.getElem?_map] at e
      obtain ⟨p, h1, h2⟩ := Option.map_eq_some_iff.mp e
      exact ⟨p, h1, h2.symm⟩
    · rw [← sz1]
      exact Heap.get?_push_size _ rfl
    · exact (pl.push _).push _
    · refine ⟨rfl, s'.heap, s'.toks, L, es, ep, t, ?_, R, len ▸ g, k⟩
      have e1 : s'.gens = s.gens := mv.gens
      have e2 : s'.drawn = s.drawn := mv.drawn
      have e3 : s'.os = s.os := mv.os
      cases s'
      cases e1
      cases e2
      cases e3
      rfl
  · obtain ⟨h', tk, L, es, ep, t, e, R, g, k⟩ := z
    subst e
    refine ⟨.ref s.heap.objs.size, upd H s.heap.objs.size (SetTO X.prog X.w s.heap.objs.size L), I.laid (t' := tk) k (Nat.le_refl _) (setTO_new R.t0), rfl, q _ L hn (fun p hp => ?_) fun p hp => ?_⟩
    · exact List.mem_of_mem_take (g.sub p hp)
    · exact g.all p (by rw [List.take_length]; exact hp)
end VL

namespace VL
open PySem PySem.Spec
open PyProof.Rows L2
open Evl (Ex sz_of)

theorem strict_only {T : Type} {lt : T → T → Prop} (asym : ∀ x y, lt x y → ¬ lt y x) : ∀ {l m : List T}, l.Pairwise lt → m.Pairwise lt → (∀ x, x ∈ l ↔ x ∈ m) → l = m
  | [], [], _, _, _ => rfl
  | [], y :: m, _, _, h => absurd ((h y).mpr List.mem_cons_self) (by simp)
  | x :: l, [], _, _, h => absurd ((h x).mp List.mem_cons_self) (by simp)
  | x :: l, y :: m, h1, h2, h => by
    have a1 := List.pairwise_cons.mp h1
    have a2 := List.pairwise_cons.mp h2
    have e : x = y := by
      rcases List.mem_cons.mp ((h x).mp List.mem_cons_self) with e | hx
      · exact e
      · rcases List.mem_cons.mp ((h y).mpr List.mem_cons_self) with e | hy
        · exact e.symm
        · exact absurd (a1.1 y hy) (asym _ _ (a2.1 x hx))
    subst e
    refine congrArg (x :: ·) (strict_only asym a1.2 a2.2 fun z => ⟨fun hz => ?_, fun hz => ?_⟩)
    · rcases List.mem_cons.mp ((h z).mp (List.mem_cons_of_mem _ hz)) with e | q
      · subst e
        exact absurd (a1.1 z hz) (asym _ _ (a1.1 z hz))
      · exact q
    · rcases List.mem_cons.mp ((h z).mpr (List.mem_cons_of_mem _ hz)) with e | q
      · subst e
        exact absurd (a2.1 z hz) (asym _ _ (a2.1 z hz))
      · exact q
/-- pairs, each once, in their order -/
def uins (p : Int × Int) : List (Int × Int) → List (Int × Int)
  | [] => [p]
  | q :: r => if SrtO.lexB p q = true then p :: q :: r else if p = q then q :: r else q :: uins p r
def usort (l : List (Int × Int)) : List (Int × Int) := l.foldr uins []
theorem lexB_tri (p q : Int × Int) (h : SrtO.lexB p q ≠ true) (n : p ≠ q) : SrtO.lexB q p = true := by
  rw [Ne, SrtO.lexB_iff] at h
  rw [SrtO.lexB_iff]
  have : ¬ (p.1 = q.1 ∧ p.2 = q.2) := fun z => n (Prod.ext z.1 z.2)
  omega
theorem lexB_trans {p q r : Int × Int} (h : SrtO.lexB p q = true) (k : SrtO.lexB q r = true) : SrtO.lexB p r = true := by
  rw [SrtO.lexB_iff] at *
  omega
theorem lexB_asym (p q : Int × Int) (h : SrtO.lexB p q = true) : ¬ SrtO.lexB q p = true := by
  rw [SrtO.lexB_iff] at *
  omega
theorem uins_mem (p : Int × Int) : ∀ (l : List (Int × Int)) (x : Int × Int), x ∈ uins p l ↔ x = p ∨ x ∈ l
  | [], x => by simp [uins]
  | q :: r, x => by
    unfold uins
    split
    · simp
    · split
      · rename_i e
        subst e
        simp
      · rw [List.mem_cons, uins_mem p r x, List.mem_cons]
        constructor
        · rintro (h | h | h) <;> simp [h]
        · rintro (h | h | h) <;> simp [h]
theorem uins_up (p : Int × Int) : ∀ l : List (Int × Int), l.Pairwise (fun x y => SrtO.lexB x y = true) → (uins p l).Pairwise (fun x y => SrtO.lexB x y = true)
  | [], _ => by simp [uins]
  | q :: r, h => by
    have a := List.pairwise_cons.mp h
    unfold uins
    split
    · rename_i e
      refine List.pairwise_cons.mpr ⟨fun z hz => ?_, h⟩
      rcases List.mem_cons.mp hz with k | k
      · rw [k]; exact e
      · exact lexB_trans e (a.1 z k)
    · rename_i e
      split
      · exact h
      · rename_i n
        refine List.pairwise_cons.mpr ⟨fun z hz => ?_, uins_up p r a.2⟩
        rcases (uins_mem p r z).mp hz with k | k
        · rw [k]; exact lexB_tri p q e n
        · exact a.1 z k
theorem usort_mem : ∀ (l : List (Int × Int)) (x : Int × Int), x ∈ usort l ↔ x ∈ l
  | [], x => by simp [usort]
  | p :: l, x => by
    show x ∈ uins p (usort l) ↔ _
    rw [uins_mem, usort_mem l x, List.mem_cons]
theorem usort_up : ∀ l : List (Int × Int), (usort l).Pairwise (fun x y => SrtO.lexB x y = true)
  | [] => .nil
  | p :: l => uins_up p _ (usort_up l)
theorem usort_only {l m : List (Int × Int)} (h : m.Pairwise fun x y => SrtO.lexB x y = true) (k : ∀ x, x ∈ m ↔ x ∈ l) : m = usort l :=
  strict_only (fun x y => lexB_asym x y) h (usort_up l) fun x => (k x).trans (usort_mem l x).symm

def bnd64 (p : Int × Int) : Bool := decide (0 ≤ p.1 ∧ p.1 < 64 ∧ 0 ≤ p.2 ∧ p.2 < 64)
def tupP (p : Int × Int) : D := .tup [.int p.1, .int p.2]
def fSortSet : D → Option O
  | .tup ds => if (ds.all (fun d => (pairD d).isSome && bnd64 (keyP d)) && decide (ds.length < 64)) = true then some (.lst ((usort (ds.map keyP)).map tupP)) else none
  | _ => none
def mSortSet (a : M) : M := fun ρ => bnd (a ρ) fun o ρ1 => (fSortSet o.frz).map fun x => (.ok x, ρ1)
section
variable {G : Cn} {P : Program} {E : XK} {ta : TE} {ma : M}
/-- the tuples at their places, and the pairs that they are -/
theorem pairs_at {F H : Hp} (x : Lx F H) : ∀ {vs : List V} {ds : List D}, Reps G F vs ds → ds.all (fun d => (pairD d).isSome && bnd64 (keyP d)) = true →
    ∃ ks : List (Addr × List Int), vs = ks.map (fun p => V.ref p.1) ∧ ks.map (·.2) = ds.map (fun d => [(keyP d).1, (keyP d).2]) ∧ ∀ p ∈ ks, F p.1 = some (.tup (p.2.map V.int)) ∧ ∃ a b, p.2 = [a, b] ∧ bnd64 (a, b) = true
  | _, [], h, _ => ⟨[], by rw [h.of_nil]; rfl, rfl, fun _ h => by cases h⟩
  | _, d :: ds, h, e => by
    obtain ⟨v, r, rfl, h1, h2⟩ := h.of_cons
    rw [List.all_cons, Bool.and_eq_true, Bool.and_eq_true] at e
    obtain ⟨ks, e1, e2, e3⟩ := pairs_at x h2 e.2
    obtain ⟨q1, q2⟩ := e.1
    unfold pairD at q1
    split at q1
    · rename_i a b
      unfold Rep at h1
      obtain ⟨t, vs, rfl, g1, g2⟩ := h1
      obtain ⟨v1, r1, rfl, k1, g3⟩ := g2.of_cons
      obtain ⟨v2, r2, rfl, k2, g4⟩ := g3.of_cons
      obtain rfl := g4.of_nil
      obtain rfl := k1.toInt
      obtain rfl := k2.toInt
      refine ⟨(t, [a, b]) :: ks, by rw [e1]; rfl, by rw [List.map_cons, e2]; rfl, fun p hp => ?_⟩
      rcases List.mem_cons.mp hp with z | z
      · subst z
        exact ⟨g1, a, b, rfl, q2⟩
      · exact e3 p z
    · cases q1
theorem sem_sortSet (ha : Sem G E ta ma) : Sem G E (tCB (rSortedT G.K P G.w) (tCons (tCB (rSetTT G.K P G.w) (tCons ta tNil)) tNil)) (mSortSet ma) := ⟨fun {F H σ ρ α Q} S h => by
  refine ha.run S (Post.to h fun o ρ1 v F1 H1 α1 S1 r1 T1 N1 h1 => ?_)
  generalize o.frz = d at r1 h1
  unfold fSortSet at h1
  split at h1
  · rename_i ds
    split at h1
    · rename_i hc
      rw [Bool.and_eq_true] at hc
      unfold Rep at r1
      obtain ⟨l, vs, rfl, g1, g2⟩ := r1
      obtain ⟨ks, e1, e2, e3⟩ := pairs_at S1.ex g2 hc.1
      have len : ks.length < 64 := by
        have := congrArg List.length e2
        rw [List.length_map, List.length_map] at this
        rw [this]
        exact of_decide_eq_true hc.2
      show rSetTT G.K P G.w [.ref l] H1 (fun x H2 => rSortedT G.K P G.w [x] H2 Q)
      refine ⟨l, ks, rfl, ?_, fun p hp => SqT.of (S1.ex.x (e3 p hp).1), len, fun a L hA sub all => ?_⟩
      · rw [← e1]
        exact SqT.of (S1.ex.x g1)
      show rSortedT G.K P G.w [.ref a] (upd H1 a (SetTO P G.w a L)) _
      have S2 := S1.put (o := SetTO P G.w a L) hA
      refine ⟨a, L, 2, 64, rfl, upd_same, fun p hp => SqT.of ?_, by decide, fun p hp => ?_, fun L' p pm nd few up hp => ?_⟩
      · rw [upd_ne (ne_of_none (S1.ex.x (e3 p (sub p hp)).1) hA)]
        exact S1.ex.x (e3 p (sub p hp)).1
      · obtain ⟨_, x, y, q1, q2⟩ := e3 p (sub p hp)
        rw [q1]
        refine ⟨rfl, fun m hm => ?_⟩
        have z := of_decide_eq_true q2
        rcases List.mem_cons.mp hm with k | k
        · subst k; exact ⟨z.1, z.2.1⟩
        · obtain rfl := List.mem_singleton.mp k
          exact ⟨z.2.2.1, z.2.2.2⟩
      · have mem : ∀ q ∈ L', q ∈ ks := fun q hq => sub q (pm.mem_iff.mp hq)
        have keyL : ∀ q ∈ L', ∃ x y, q.2 = [x, y] ∧ bnd64 (x, y) = true ∧ F1 q.1 = some (.tup (q.2.map V.int)) := fun q hq => by
          obtain ⟨z1, x, y, z2, z3⟩ := e3 q (mem q hq)
          exact ⟨x, y, z2, z3, z1⟩
        have fin : L'.map (fun q => (q.2.getD 0 0, q.2.getD 1 0)) = usort (ds.map keyP) := by
          refine usort_only ?_ fun x => ⟨fun hx => ?_, fun hx => ?_⟩
          · rw [List.pairwise_map]
            have nd' : L'.Pairwise fun q r => q.2 ≠ r.2 := List.pairwise_map.mp nd
            refine (up.and nd').imp_of_mem fun {q r} hq hr z => ?_
            obtain ⟨x, y, z1, z2, _⟩ := keyL q hq
            obtain ⟨x', y', z3, z4, _⟩ := keyL r hr
            have b1 := of_decide_eq_true z2
            have b2 := of_decide_eq_true z4
            have c := z.1
            have n := z.2
            rw [z1, z3] at c n ⊢
            have := L2.pair_lt c n ⟨b1.1, b1.2.1⟩ ⟨b1.2.2.1, b1.2.2.2⟩ ⟨b2.1, b2.2.1⟩ ⟨b2.2.2.1, b2.2.2.2⟩
            exact SrtO.lexB_iff.mpr this
          · obtain ⟨q, hq, rfl⟩ := List.mem_map.mp hx
            obtain ⟨x, y, z1, _, _⟩ := keyL q hq
            have m2 : q.2 ∈ ks.map (·.2) := List.mem_map.mpr ⟨q, mem q hq, rfl⟩
            rw [e2] at m2
            obtain ⟨d, hd, ed⟩ := List.mem_map.mp m2
            refine List.mem_map.mpr ⟨d, hd, ?_⟩
            rw [← ed]
            rfl
          · obtain ⟨d, hd, rfl⟩ := List.mem_map.mp hx
            have m2 : [(keyP d).1, (keyP d).2] ∈ ks.map (·.2) := by
              rw [e2]
              exact List.mem_map.mpr ⟨d, hd, rfl⟩
            obtain ⟨q, hq, eq⟩ := List.mem_map.mp m2
            have m3 := all q hq
            obtain ⟨q', hq', eq'⟩ := List.mem_map.mp m3
            refine List.mem_map.mpr ⟨q', pm.mem_iff.mpr hq', ?_⟩
            rw [eq', eq]
            rfl
        have rps : ∀ (M : List (Addr × List Int)), (∀ q ∈ M, ∃ x y, q.2 = [x, y] ∧ bnd64 (x, y) = true ∧ F1 q.1 = some (.tup (q.2.map V.int))) → Reps G F1 (M.map fun q => V.ref q.1) ((M.map (fun q => (q.2.getD 0 0, q.2.getD 1 0))).map tupP) := fun M => by
          induction M with
          | nil => exact fun _ => .nil
          | cons q M ih =>
            intro hM
            obtain ⟨x, y, z1, _, z2⟩ := hM q List.mem_cons_self
            refine .cons ?_ (ih fun r hr => hM r (List.mem_cons_of_mem _ hr))
            show Rep G F1 (.ref q.1) (tupP (q.2.getD 0 0, q.2.getD 1 0))
            rw [z1] at z2 ⊢
            exact Rep.ofTup z2 (.cons Rep.ofInt (.cons Rep.ofInt .nil))
        have r2 := rps L' keyL
        rw [fin] at r2
        have T2 : Stp (Own α) F H F1 (upd H1 a (SetTO P G.w a L)) := T1.trans (Ste.putStp hA (A := Own α1)) N1
        refine Post.newL (Post.shift T2 ?_ h1) S2 hp r2
        exact N1
    · exact h1.elim
  · exact h1.elim⟩
end
end VL

namespace VL
open PySem PySem.Spec
open PyProof.Rows L2
open Evl (Ex sz_of)

/-! ### classmethods: C.m(..), and cls(..) within -/
section
variable {P : Program} {w : World} {K : PySem.W.Frag} {mg : Str → Option Value} {base : Heap} {CX : CXT} {k : Nat} {f : Addr} {ps : List Str} {sp : Sp}
theorem OkAt.run (O : OkAt P w K mg base CX k f ps sp) : FnR P w K mg base CX k f sp := fun A outer s H us vs Q E hr e rel h => by
  obtain ⟨fd, F, B, _⟩ := O.ok
  have kin : K.In s.heap := e.mod.kin.keeps fun b o z => (e.bs b o z).1
  have len : us.length = ps.length := rel.length.symm.trans (F.len _ _ _ _ h)
  refine F.run A outer s H ⟨us, []⟩ us vs Q E hr e ?_ rel h
  have := B s us kin (by simpa using len)
  simpa using this
end
section
variable {X : Cx} {CX : CXT} {k i : Nat} {f C : Addr} {fd : FuncData} {ps : List Str} {sp : Sp} {dvs : List V} {ds : List Value} {E : XK} {x : Str} {p pos : Pos} {e : Expr} {es : List Expr} {t : TA}
/-- the i-th slot holds the class at C, which is made -/
def tMakeL (i : Nat) (C : Addr) (sp : Sp) (dvs : List V) (E : XK) (t : TA) : TE := fun σ H Q => σ[i]? = some (some (.ref C)) ∧ tMake C sp dvs E t σ H Q
theorem pe_makeL (M : L2.Mk X.K C f) (F : FnOk X.prog X.w X.K X.mg X.base CX k f fd ps sp) (hr : Room (k + 1) X.A) (hN : X.N[i]? = some x) (hv : Vis X.env.scope x) (hb : Binds X.K fd ps ds) (hd : Vals dvs ds) (hx : Passes CX X E) (ha : PA X (e :: es) t)
    (n1 : (x == ("__debug__" : Str)) = false := by decide) (n2 : (x == ("__classdict__" : Str)) = false := by decide)
    (he : starEach (e :: es) X.env = (false, eval e X.env) :: starEach es X.env := by rfl) (hpl : (backTo pos (starEach es X.env)).any (·.1) = false := by rfl) : PE X (.Call (.Name x p) (e :: es) [] pos) (tMakeL i C sp dvs E t) :=
  ⟨fun pins s σ H Q I h => by
    have var := (pe_var (pos := p) hN hv n1 n2).run pins s σ H (fun v H1 => v = .ref C ∧ H1 = H) I ⟨.ref C, h.1, rfl, rfl⟩
    refine wpAny_Call_Name_kw (thn var fun u s1 got => ?_)
    obtain ⟨v, H1, I1, r1, e1, e2⟩ := got
    subst e1 e2
    cases r1
    refine PySem.W.callWith_K (h₀ := X.base) I.ok.mod.kin M.kp (thn (ha.run pos pins s1 σ _ _ I1 h.2) fun us s2 got => ?_) he hpl
    obtain ⟨vs, H2, I2, r, q⟩ := got
    exact ⟨I2.kIn, run_make M F hr hb hd hx I2 r q⟩⟩
end
def mMakeL (i c : Nat) (m : M) : M := fun ρ => match ρ[i]? with
  | some (some (.val (.cls c'))) => if c' = c then m ρ else none
  | _ => none
section
variable {G : Cn} {E E1 : XK} {ta : TE} {m : M} {fn : Fn} {n c i : Nat} {t : TA} {ms : MA} {sp : Sp} {dvs : List V}
theorem sem_makeL (h : Sem G E (tMake (G.cls c) sp dvs E t) m) : Sem G E (tMakeL i (G.cls c) sp dvs E t) (mMakeL i c m) := ⟨fun {F H σ ρ α Q} S q => by
  unfold mMakeL at q
  split at q
  · rename_i c' e
    split at q
    · rename_i hc
      subst hc
      obtain ⟨v, h1, r⟩ := S.slot i _ e
      obtain ⟨_, r⟩ := r
      unfold Rep at r
      subst r
      exact ⟨h1, h.run S q⟩
    · exact q.elim
  · exact q.elim⟩
theorem sem_cls {c : Nat} : Sem G E (tC (.ref (G.cls c))) (mC (.cls c)) := sem_c fun _ => by unfold Rep; rfl
/-- C.m(..) -/
theorem sem_cmeth (hE : E1 = E ∨ ∀ os c f os', fn os ≠ some (.ex c f, os')) (hl : ∀ os r, fn os = some r → os.length = n) (ht : SemA G E t ms) : Sem G E (ClX.tCMeth (G.cls c) (spF G fn n) E1 (tC (.ref (G.cls c))) t) (mCall fn (aCons (mC (.cls c)) ms)) := ⟨fun {F H σ ρ α Q} S h => by
  have z := (sem_callE hE hl (semA_cons sem_cls ht)).run S h
  have e : (fun (vs : List V) (H1 : Hp) => spF G fn n (vs ++ []) H1 Q E1) = fun vs H1 => spF G fn n vs H1 Q E1 := by
    funext vs H1
    rw [List.append_nil]
  have z' : t σ H (fun vs H2 => spF G fn n ((.ref (G.cls c) :: vs) ++ []) H2 Q E1) := z
  refine ⟨rfl, ?_⟩
  have e2 : (fun (vs : List V) (H2 : Hp) => spF G fn n ((.ref (G.cls c) :: vs) ++ []) H2 Q E1) = fun vs H2 => spF G fn n (.ref (G.cls c) :: vs) H2 Q E1 := by
    funext vs H2
    rw [List.append_nil]
  rw [e2] at z'
  exact z'⟩
end
/-! ### sorted, of what it serves -/
abbrev rSorts (K : PySem.W.Frag) : List V → Hp → VK → Prop := fun xs H Q => rSortedI K xs H Q ∨ (rSortedPO K xs H Q ∨ rSortTI K xs H Q)
theorem call_sorts {X : Cx} : CallR X (.builtin "sorted") (rSorts X.K) := fun pins s σ H vs us Q I r h => h.elim (cr_sortedI pins s σ H vs us Q I r) fun h => h.elim (cr_sortedPO pins s σ H vs us Q I r) (cr_sortTI pins s σ H vs us Q I r)
def fSorts : List D → Option O := fOr1 fSortI (fOr1 fSortP fSortTI)
theorem cs_sorts {G : Cn} : CSem G (rSorts G.K) fSorts := cs_or cs_sortI (cs_or cs_sortP cs_sortTI)
end VL

namespace VL
open PySem PySem.Spec
open PyProof.Rows L2
open Evl (Ex sz_of)

/-! ### a try that catches one own error, without a name -/
section
variable {X : Cx} {CX : CXT} {E : L2.St → XK} {k : Nat} {f C : Addr} {ps : List Str} {sp : Sp}
/-- a | b whose def may raise: what is wished of an error hangs on the slots -/
theorem pe_binOS {op : Operator} {a b : Expr} {ta tb : TE} {pos : Pos} (O : OkAt X.prog X.w X.K X.mg X.base CX k f ps sp) (c : OwnBin X.K C f op.info.2) (hx : ∀ σ, PassesAt CX X σ (E σ)) (hr : Room k X.A) (ha : PE X a ta) (hb : PE X b tb) :
    PE X (.BinOp a op b pos) (fun σ H Q => tOp (rBinO C sp (E σ)) ta tb σ H Q) := by
  obtain ⟨fd, F, B, _⟩ := O.ok
  constructor
  intro pins s σ H Q I h
  refine wpAny_BinOp (binT ha hb I h fun v u s2 x y H2 inv rx ry got => ?_)
  obtain ⟨a, b, dx, dy, fs, gs, ex, ey, ha, hb, h⟩ := got
  subst ex ey
  cases rx
  cases ry
  obtain ⟨mA, JA, _⟩ := ins_get inv.hok ha
  obtain ⟨mB, JB, _⟩ := ins_get inv.hok hb
  obtain ⟨oa, IA, _⟩ := JA.look
  obtain ⟨ob, IB, _⟩ := JB.look
  obtain ⟨m, fr⟩ := inv.fr
  have rel : Vals [V.ref a, V.ref b] [Value.ref a, Value.ref b] := .cons (show RelV (V.ref a) (Value.ref a) from rfl) (.cons (show RelV (V.ref b) (Value.ref b) from rfl) .nil)
  refine PySem.W.binop_K fr inv.ok.mod.kin IA IB.type c.first c.at_ c.isF (thn (run_fnS F hr B (hx σ) inv rel h) fun w s' out => ?_)
  obtain ⟨z, H', I', rz, ⟨p, ez⟩, q⟩ := out
  subst ez
  cases rz
  exact ⟨.ref p, H', I', rfl, q⟩
end
def sTryC (c : Nat) (body su : MS) : MS := fun pins ρ => match body pins ρ with
  | some (.ex c' none, _) => if c' = c ∧ allVal ρ = true then su pins ρ else none
  | some (.ex _ (some _), _) => none
  | r => r
section
variable {G : Cn} {E : XK}
theorem semS_tryC {c : Nat} {body su : MS} {tb : XK → TS} {ts : TS} (hb : ∀ E : XK, SemS G E (tb E) body) (hs : SemS G E ts su) (hx : PySem.W.exmOne G.K (.ref (G.cls c)) (.ref (G.cls c)) = some true) :
    SemS G E (fun D σ H => tb (WE (wOnly G.K (.ref (G.cls c)) (fun _ _ _ => ts) (fun _ _ _ _ => False) D) σ) D σ H) (sTryC c body su) := ⟨fun {F H σ ρ α D pins} S h => by
  refine (hb _).run (pins := pins) S ?_
  unfold sTryC at h
  cases q : body pins ρ with
  | none => rw [q] at h; exact h.elim
  | some x =>
    obtain ⟨r, ρ1⟩ := x
    rw [q] at h
    cases r with
    | ok o => exact h
    | ex c' fs =>
      cases fs with
      | some fs => exact h.elim
      | none =>
        try dsimp only at h
        split at h
        · rename_i hc
          obtain ⟨hc, hv⟩ := hc
          subst hc
          have no := allVal_own hv S
          intro F' H' T'
          refine ⟨true, hx, fun _ a ha => ?_, fun z => nomatch z⟩
          have eH : Kpt F H H' := fun b o e => T'.keep b o e (no b)
          have S' : Ste G F H' σ ρ α := S.grow (Ex.refl F) eH (fun _ _ z => .inl z) (S.ex.kpt eH)
          exact hs.run S' (PostS.shift ⟨Ex.refl F, fun b o e _ => eH b o e, fun b o e => .inl e⟩ .refl .refl h)
        · exact h.elim⟩
end
theorem semS_cast {G : Cn} {E : XK} {t t' : TS} {m : MS} (h : SemS G E t m) (e : t = t') : SemS G E t' m := e ▸ h
/-! ### a comprehension's own name that the def has, too: what the def's slot held is forgotten -/
def soft (vs : List Nat) (ρ : Rho) : Bool := vs.all fun j => match ρ[j]? with
  | some none => true
  | some (some (.val _)) => true
  | _ => false
def mFgt (vs : List Nat) (m : M) : M := fun ρ => if soft vs ρ = true then m (wipeR ρ vs) else none
section
variable {G : Cn} {E : XK} {F H : Hp} {σ : L2.St} {ρ : Rho} {α : Al} {t : TE} {m : M}
theorem Ste.forget (S : Ste G F H σ ρ α) {vs : List Nat} (h : soft vs ρ = true) : Ste G F H σ (wipeR ρ vs) α where
  ex := S.ex
  len := by rw [wipeR_len]; exact S.len
  slot := fun i o e => by
    by_cases hi : i ∈ vs
    · exact absurd e (wipeR_in hi o)
    · rw [wipeR_out hi] at e
      exact S.slot i o e
  off := fun i n => by
    by_cases hi : i ∈ vs
    · have q := List.all_eq_true.mp h i hi
      cases e : ρ[i]? with
      | none => exact S.off i fun o z => by rw [e] at z; cases z
      | some x =>
        cases x with
        | none => exact S.off i fun o z => by rw [e] at z; cases z
        | some o =>
          obtain ⟨v, _, r⟩ := S.slot i o e
          rw [e] at q
          cases o with
          | val d => exact r.1
          | _ => cases q
    · exact S.off i fun o z => n o (by rw [wipeR_out hi]; exact z)
  dis := S.dis
theorem sem_fgt {vs : List Nat} (h : Sem G E t m) : Sem G E t (mFgt vs m) := ⟨fun {F H σ ρ α Q} S q => by
  unfold mFgt at q
  split at q
  · rename_i k
    exact h.run (S.forget k) q
  · exact q.elim⟩
end
end VL

namespace VL
open PySem PySem.Spec
open PyProof.Rows L2
/-! ### defs whose positional parameters have defaults -/
structure FunV (K : PySem.W.Frag) (x qual : Str) (st : Stmt) (f : Addr) (fd : FuncData) : Prop where
  ex : ∃ (oc : Value) (od : Option Addr) (dV kV doc pm : Value) (an : Option Addr) (cdv ct : Value) (osl : Array (Option Value)),
    fd = PySem.W.fnOf x qual (defArgs st) (defBody st) (defScope st) dV kV doc pm an cdv ct ∧ K.lookup f = some ⟨oc, od, .func fd, osl⟩ ∧ PySem.W.codeIn K cdv qual = true
  kp : PySem.W.keepIn K (.ref f) = true
section
variable {P : Program} {w : World} {K : PySem.W.Frag} {mg : Str → Option Value} {base : Heap} {cl : Nat → Addr}
theorem FunV.ofD {x qual : Str} {st : Stmt} {f : Addr} {fd : FuncData} {dvs : List V} {kws : List (Str × V)} (F : L2.FunD K x qual (defArgs st) (defBody st) (defScope st) dvs kws f fd) : FunV K x qual st f fd := by
  obtain ⟨oc, od, dV, kV, doc, pm, an, cdv, ct, osl, e, lk, hcd, _, _⟩ := F.ex
  exact ⟨⟨oc, od, dV, kV, doc, pm, an, cdv, ct, osl, e, lk, hcd⟩, F.kp⟩
theorem FunV.run {CX : CXT} {x qual : Str} {st : Stmt} {f : Addr} {fd : FuncData} {N ps : List Str} {k : Nat} {sp : Sp} (F : FunV K x qual st f fd) (S : FnScope N ps (defScope st)) (len : ∀ vs H Q E, sp vs H Q E → vs.length = ps.length)
    (hbody : ∀ (cdv : Value) (A : Around) (outer : List Env) (s : Shared) (H : Hp) (vs : List V) (Q : VK) (E : XK), Room k (A.deeper (envOfC qual (defScope st) s.heap.objs.size f cdv)) → sp vs H Q E →
      ∃ t, PSs (cxOf CX P w K mg base N qual (defScope st) f cdv A outer s H E) (defBody st) t ∧ t { nx := fun _ H' => Q .non H', rt := Q } (start N vs) H) : FnOk P w K mg base CX (k + 1) f fd ps sp := by
  obtain ⟨oc, od, dV, kV, doc, pm, an, cdv, ct, osl, rfl, lk, hcd⟩ := F.ex
  exact fn_of lk hcd S len fun A outer s H vs Q E hr hsp => hbody cdv A outer s H vs Q E hr hsp
theorem okxV {x qual : Str} {st : Stmt} {f : Addr} {fd : FuncData} {Ns ps : List Str} {k np : Nat} {m : MS} (Fu : FunV K x qual st f fd) (S : FnScope Ns ps (defScope st)) (hp : ps.length = np) (hN : np ≤ Ns.length)
    (hbody : ∀ (cdv : Value) (A : Around) (outer : List Env) (s : Shared) (H : Hp) (E : XK), Room k (A.deeper (envOfC qual (defScope st) s.heap.objs.size f cdv)) →
      ∃ t, PSs (cxOf (L2.CX P w) P w K mg base Ns qual (defScope st) f cdv A outer s H E) (defBody st) t ∧ SemS ⟨K, cl, w⟩ E t m) : FnOk P w K mg base (L2.CX P w) (k + 1) f fd ps (spF ⟨K, cl, w⟩ (mFn np Ns.length m) np) := by
  refine Fu.run S (fun vs H Q E h => ?_) (fun cdv A outer s H vs Q E hr h => ?_)
  · exact h.1.trans hp.symm
  · obtain ⟨hv, F, os, α, S0, h⟩ := h
    obtain ⟨t, ht, hm⟩ := hbody cdv A outer s H E hr
    refine ⟨t, ht, ?_⟩
    have e : L2.start Ns vs = vs.map some ++ List.replicate (Ns.length - np) none := by
      unfold L2.start
      rw [hv]
    rw [e]
    exact body_run (Q := Q) hm S0 hv (np := np) (N := Ns.length) h
theorem fn_ok0V {x qual : Str} {st : Stmt} {f : Addr} {fd : FuncData} {Ns ps : List Str} {k np : Nat} {m : MS} (Fu : FunV K x qual st f fd) (S : FnScope Ns ps (defScope st)) (hp : ps.length = np) (hN : np ≤ Ns.length)
    (hbody : ∀ (cdv : Value) (A : Around) (outer : List Env) (s : Shared) (H : Hp) (E : XK), Room k (A.deeper (envOfC qual (defScope st) s.heap.objs.size f cdv)) →
      ∃ t, PSs (cxOf CX0 P w K mg base Ns qual (defScope st) f cdv A outer s H E).nox (defBody st) t ∧ SemS ⟨K, cl, w⟩ E0 t m) : FnOk P w K mg base CX0 (k + 1) f fd ps (spF ⟨K, cl, w⟩ (mFn0 np Ns.length m) np) := by
  refine Fu.run S (fun vs H Q E h => ?_) (fun cdv A outer s H vs Q E hr h => ?_)
  · exact h.1.trans hp.symm
  · obtain ⟨hv, F, os, α, S0, h⟩ := h
    obtain ⟨t, ht, hm⟩ := hbody cdv A outer s H E hr
    refine ⟨t, ht.nox, ?_⟩
    have e : L2.start Ns vs = vs.map some ++ List.replicate (Ns.length - np) none := by
      unfold L2.start
      rw [hv]
    rw [e]
    refine body_run (Q := Q) hm S0 hv (np := np) (N := Ns.length) ?_
    unfold mFn0 at h
    match q : mFn np Ns.length m os, h with
    | none, h => exact h
    | some (.ok o, os'), h => exact h
    | some (.ex c f, os'), h => exact h.elim
/-- every parameter given: no keyword -/
theorem kbn_of {fd : FuncData} {ps : List Str} (B : Binds K fd ps []) : L2.KBn K fd ps ps.length [] (fun us ws => us ++ ws) (fun vs zs => vs ++ zs) :=
  ⟨fun s us ws X l1 l2 => by
    obtain rfl := List.eq_nil_of_length_eq_zero l2
    exact B s us X (by rw [List.append_nil]; exact l1), fun r1 r2 => r1.append r2⟩
theorem kbn_of0 {fd : FuncData} {ps : List Str} (B : Binds K fd ps []) : L2.KBn K fd ps ps.length [] (fun us _ => us ++ []) (fun vs _ => vs ++ []) :=
  ⟨fun s us ws X l1 l2 => by
    obtain rfl := List.eq_nil_of_length_eq_zero l2
    exact B s us X (by rw [List.append_nil]; exact l1), fun r1 _ => r1.append .nil⟩
/-- the last parameter's default is a tuple of the text -/
theorem dfl_of {x qual : Str} {st : Stmt} {f a : Addr} {fd : FuncData} {ps : List Str} (F : L2.FunD K x qual (defArgs st) (defBody st) (defScope st) [.ref a] [] f fd) (n : Nat) (hn : n + 1 = ps.length)
    (h0 : ∀ (T : Addr) (kV doc pm : Value) (an : Option Addr) (cdv ct : Value) (us its : List Value), us.length = n → its.length = 1 →
      ∃ k, bindArgs (PySem.W.fnOf x qual (defArgs st) (defBody st) (defScope st) (.ref T) kV doc pm an cdv ct) ⟨us, []⟩ = seqItems? (.ref T) >>= k ∧ k (some its.toArray) = pure (ps.zip (us ++ its.drop 0)))
    (h1 : ∀ (T : Addr) (kV doc pm : Value) (an : Option Addr) (cdv ct : Value) (us its : List Value), us.length = n + 1 → its.length = 1 →
      ∃ k, bindArgs (PySem.W.fnOf x qual (defArgs st) (defBody st) (defScope st) (.ref T) kV doc pm an cdv ct) ⟨us, []⟩ = seqItems? (.ref T) >>= k ∧ k (some its.toArray) = pure (ps.zip (us ++ its.drop 1))) :
    Binds K fd ps [Value.ref a] ∧ Binds K fd ps [] := by
  obtain ⟨ds, r0, b0⟩ := F.binds1 n 0 (by intro z; cases z) hn h0
  obtain ⟨es, r1, b1⟩ := F.binds1 (n + 1) 1 (by intro z; cases z) hn h1
  match ds, es, r0, r1, b0, b1 with
  | _, _, .cons e .nil, .nil, b0, b1 =>
    obtain rfl := (show _ = Value.ref a from e)
    exact ⟨b0, b1⟩
end
end VL

namespace VL
open PySem PySem.Spec
open PyProof.Rows L2
open Evl (Ex sz_of)

/-! ### x += e, xs[i] += e, on ints -/
def sAugI (i : Nat) (g : Int → Int → Int) (a : M) : MS := fun p ρ => match ρ[i]? with
  | some (some (.val (.int x))) => bnd (a ρ) fun o ρ1 => (match o.frz with
    | .int y => (setV p i (.val (.int (g x y))) ρ1).map fun ρ2 => (.ok .nx, ρ2)
    | _ => none)
  | _ => none
/-- xs[k] += e -/
def sAugL (i : Nat) (g : Int → Int → Int) (k v : M) : MS := fun _ ρ => (look ρ i).bind fun _ => bnd (k ρ) fun x ρ1 => match ρ1[i]?, x.frz with
  | some (some (.lst ds)), .int j => (match ixN ds.length j with
    | some n => (match ds[n]? with
      | some (.int b) => bnd (v ρ1) fun o ρ2 => (match ρ2[i]?, o.frz with
        | some (some (.lst es)), .int c => if es.length = ds.length then some (.ok .nx, ρ2.set i (some (.lst (es.set n (.int (g b c)))))) else none
        | _, _ => none)
      | _ => none)
    | none => none)
  | _, _ => none
section
variable {G : Cn} {E : XK} {F F1 H H1 : Hp} {σ : L2.St} {ρ ρ1 : Rho} {α α1 : Al} {i : Nat} {ta tb : TE} {ma mb : M}
theorem semS_augI {g : Int → Int → Int} (ha : Sem G E ta ma) : SemS G E (tAug i ta (ipI g)) (sAugI i g ma) := ⟨fun {F H σ ρ α D pins} S h => by
  unfold sAugI at h
  split at h
  · rename_i x e0
    obtain ⟨v, hv, r⟩ := S.slot i _ e0
    have hx : v = .int x := by
      have := r.2
      unfold Rep at this
      exact this
    subst hx
    refine ⟨_, hv, ha.run S (Post.to h fun o ρ1 w F1 H1 α1 S1 r1 T1 N1 h1 => ?_)⟩
    split at h1
    · rename_i y e1
      rw [e1] at r1
      obtain rfl := r1.toInt
      cases e : setV pins i (.val (.int (g x y))) ρ1 with
      | none => rw [e] at h1; exact h1.elim
      | some ρ2 =>
        rw [e] at h1
        obtain ⟨np, hi, rfl⟩ := setV_some e
        refine ⟨x, y, rfl, rfl, ?_⟩
        exact h1 _ F1 H1 _ (S1.store (β := []) ⟨rfl, Rep.ofInt⟩ (fun _ _ _ z => nomatch z) hi) T1 (fun a z => by
          rcases Al.own_set z with z | z
          · exact N1 a z
          · cases z) (Pin.set np)
    · exact h1.elim
  · exact h.elim⟩
theorem intsD_eq : ∀ {ds : List D} {ns : List Int}, intsD ds = some ns → ds = ns.map .int
  | [], ns, e => by cases e; rfl
  | d :: ds, ns, e => by
    cases d <;> simp [intsD] at e
    obtain ⟨ms, e1, rfl⟩ := e
    rw [intsD_eq e1]
    rfl
theorem reps_int {vs : List V} {ns : List Int} (h : Reps G F vs (ns.map .int)) : vs = ns.map .int := by
  induction ns generalizing vs with
  | nil => exact h.of_nil
  | cons n ns ih =>
    obtain ⟨v, r, rfl, q, t⟩ := h.of_cons
    rw [ih t]
    unfold Rep at q
    rw [q]
    rfl
def mRem (i : Nat) (a : M) : M := fun ρ => match ρ[i]? with
  | some (some (.lst _)) => bnd (a ρ) fun o ρ1 => (match ρ1[i]?, o.frz with
    | some (some (.lst ds)), .int k => (match intsD ds with
      | some ns => if k ∈ ns then some (.ok (.val .non), ρ1.set i (some (.lst ((ns.eraseIdx (ns.idxOf k)).map .int)))) else none
      | none => none)
    | _, _ => none)
  | _ => none
theorem sem_rem (ha : Sem G E ta ma) : Sem G E (tBM G.K "list" rRemI (tVar i) (tCons ta tNil)) (mRem i ma) := ⟨fun {F H σ ρ α Q} S h => by
  unfold mRem at h
  split at h
  · rename_i ds0 e0
    obtain ⟨p, vs0, hv, hp, hh, hr⟩ := S.slotL e0
    refine ⟨.ref p, hv, .inl ⟨rfl, vs0, SqL.of hh⟩, ha.run S (Post.to h fun o ρ1 v F1 H1 α1 S1 r1 T1 N1 h1 => ?_)⟩
    split at h1
    · rename_i ds k e1 e2
      rw [e2] at r1
      obtain rfl := r1.toInt
      split at h1
      · rename_i ns hns
        split at h1
        · rename_i hk
          obtain rfl := intsD_eq hns
          obtain ⟨p', vs, hv', hp', hh', hr'⟩ := S1.slotL e1
          rw [hv] at hv'
          cases hv'
          obtain rfl := reps_int hr'
          have hlt : ns.idxOf k < ns.length := List.idxOf_lt_length_iff.mpr hk
          refine ⟨p, ns, k, ns.idxOf k, rfl, rfl, hh', by rw [List.getElem?_eq_getElem hlt, List.getElem_idxOf hlt], fun m hm hs => ?_, ?_⟩
          · obtain ⟨hml, hm2⟩ := List.getElem?_eq_some_iff.mp hs
            have := List.not_of_lt_findIdx (p := (· == k)) (xs := ns) (i := m) hm
            simp [hm2] at this
          · have ow : Own α1 p := own_of hp' (by simp)
            exact Post.shift T1 N1 h1 .non F1 _ α1 [] (S1.writeL e1 hp' (reps_ints _)) ⟨rfl, Rep.ofNon⟩ (Stp.write ow) (fun _ z => nomatch z) fun a z => by
              rcases z with z | z
              · exact .inl z
              · cases z
        · exact h1.elim
      · exact h1.elim
    · exact h1.elim
  · exact h.elim⟩
end
section
variable {G : Cn} {E : XK}
/-- xs[k] as PGet's reading: a list's place -/
def rGetL : V → V → Hp → VK → Prop := fun o i H Q => ∃ p xs k j x, o = .ref p ∧ i = .int k ∧ H p = some (.lst xs) ∧ ixN xs.length k = some j ∧ xs[j]? = some x ∧ Q x H
theorem get_list {X : Cx} : PGet X rGetL := by
  intro pins s σ H o i ov iv Q I ro ri h
  obtain ⟨p, xs, k, j, x, rfl, rfl, hp, hj, hx, q⟩ := h
  cases ro
  obtain ⟨t, rfl⟩ := ri
  obtain ⟨its, r, pl, hz⟩ := I.list (SqL.of hp)
  obtain ⟨h1, h2, h3, h4⟩ := ixN_seq hj
  obtain ⟨w, ew, rw'⟩ := r.get hx
  have hl := r.length
  have hn := line63
  have fin : EP X pins σ Q w s := ⟨x, H, I, rw', q⟩
  by_cases h0 : 0 ≤ k
  · have hj : k.toNat = j := by
      rw [seqIndex_of h0 h4] at h1
      exact Option.some.inj h1
    exact wpAny_getItem_list pl.isList h0 (by omega) (by rw [hj]; simpa using ew) fin
  · have hj : (k + (its.toArray.size : Int)).toNat = j := by
      rw [seqIndex_neg (by omega) h3] at h1
      rw [List.size_toArray, ← hl]
      exact Option.some.inj h1
    exact wpAny_getItem_list_neg pl.isList (by omega) (by rw [List.size_toArray] <;> omega) (by omega) (by rw [hj]; simpa using ew) fin
theorem semS_augL {i : Nat} {g : Int → Int → Int} {tk tv : TE} {mk mv : M} (hk : Sem G E tk mk) (hv : Sem G E tv mv) : SemS G E (tAugS (tVar i) tk tv rGetL (ipI g) rSetL) (sAugL i g mk mv) := ⟨fun {F H σ ρ α D pins} S h => by
  unfold sAugL at h
  cases e : look ρ i with
  | none => rw [e] at h; exact h.elim
  | some d0 =>
    rw [e] at h
    obtain ⟨u, hu, _⟩ := look_x S e
    refine ⟨u, hu, hk.run S (Post.to h fun x ρ1 w F1 H1 α1 S1 r1 T1 N1 h1 => ?_)⟩
    split at h1
    · rename_i ds j e1 e2
      rw [e2] at r1
      obtain rfl := r1.toInt
      split at h1
      · rename_i n hn
        split at h1
        · rename_i b hb
          obtain ⟨p, vs, hv', hp, hh, hr⟩ := S1.slotL e1
          rw [hu] at hv'
          cases hv'
          obtain ⟨y, hy, ry⟩ := hr.get hb
          unfold Rep at ry
          subst ry
          refine ⟨p, vs, j, n, _, rfl, rfl, hh, by rw [hr.length]; exact hn, hy, hv.run S1 (Post.to (PostS.shift T1 N1 .refl h1) fun o ρ2 v F2 H2 α2 S2 r2 T2 N2 h2 => ?_)⟩
          split at h2
          · rename_i es c e3 e4
            rw [e4] at r2
            obtain rfl := r2.toInt
            split at h2
            · rename_i hl
              obtain ⟨p', vs', hv2, hp', hh', hr'⟩ := S2.slotL e3
              rw [hu] at hv2
              cases hv2
              have ow : Own α2 p := own_of hp' (by simp)
              refine ⟨b, c, rfl, rfl, p, vs', j, n, rfl, rfl, hh', by rw [hr'.length, hl]; exact hn, ?_⟩
              exact PostS.shift T2 N2 .refl h2 σ F2 _ α2 (S2.writeL e3 hp' (hr'.set Rep.ofInt n)) (Stp.write ow) .refl .refl
            · exact h2.elim
          · exact h2.elim
        · exact h1.elim
      · exact h1.elim
    · exact h1.elim⟩
end
end VL

namespace VL
open PySem PySem.Spec
open PyProof.Rows L2
open Evl (Ex sz_of)

/-! ### dicts whose keys are tuples, at the value layer: d[k], k in d, d[k] = v -/
section
variable {P : Program} {w : World} {H : Hp} {h : Heap} {a : Addr}
/-- an empty dict is one for keys that are tuples, too -/
theorem nd_empty (I : HOk P w H h) (e : Rd H a (.dK [])) : NDict w a [] h := by
  obtain ⟨l, hd, vs, rel, o, es, ep, h1, h2, h3, h4, h5, h6⟩ := dk_rd I e
  have hv : vs = [] := by
    have := Paired.length rel
    exact List.eq_nil_of_length_eq_zero this.symm
  subst hv
  have he : es.toList = [] := List.eq_nil_of_length_eq_zero h5.length
  exact ⟨by simp, hd, [], .nil, o, es, ep, h1, h2, h3, by rw [he]; rfl, List.nodup_nil⟩
/-- the dict at a, for keys that are tuples -/
def NAt (w : World) (H : Hp) (a : Addr) (xs : List (NestedKey × Addr × V)) : Prop := Rd H a (NDo w a xs) ∨ (xs = [] ∧ Rd H a (.dK []))
theorem nd_any {xs : List (NestedKey × Addr × V)} (I : HOk P w H h) (e : NAt w H a xs) (ks : KsOk H xs) : xs.length ≤ sizeLine ∧ (a == sysModules) = false ∧ ∃ ys, NPair xs ys ∧ h.DictOfH (nestedKind P w) a ys := by
  rcases e with e | ⟨rfl, e⟩
  · exact nd_of I e ks
  · obtain ⟨l, sm, ys, p, o, es, ep, h1, h2, h3, h4, h5⟩ := nd_empty I e
    refine ⟨l, sm, ys, p, o, es, ep, h1, h2, h3, h4, fun y hy => ?_, h5⟩
    obtain ⟨x, hx, _⟩ := NPair.mem p y hy
    cases hx
end
def NGet1 (w : World) (H : Hp) (a : Addr) (y : V) (r : Option V) : Prop := ∃ xs k b, NAt w H a xs ∧ KsOk H xs ∧ y = .ref b ∧ KRep H y k ∧ k.depth ≤ 8 ∧ r = valN xs k
def rNGet (w : World) : R2 := fun x y H Q => ∃ a v, x = .ref a ∧ NGet1 w H a y (some v) ∧ Q v H
def rNIn (w : World) (neg : Bool) : R2 := fun y x H Q => ∃ a o, x = .ref a ∧ NGet1 w H a y o ∧ Q (.bl (if neg = true then !o.isSome else o.isSome)) H
section
variable {X : Cx}
theorem ix_nget (hu : X.A.units + 9 < cLine) : IxR X (rNGet X.w) := by
  intro val ix pns s σ H x y v u Q I rx ry got plain
  obtain ⟨a, z, rfl, ⟨xs, k, b, e, ks, rfl, hk, dk, l⟩, q⟩ := got
  cases rx
  cases (show u = Value.ref b from ry)
  obtain ⟨_, hd, ys, p, dd⟩ := nd_any I.hok e ks
  obtain ⟨c, w', hw, rw'⟩ := (NPair.val k p).1 z l.symm
  refine tail_any dd.typeIs slot_dict_getitem.lookup ?_ plain
  exact wpAny_getItem_heap (knd := nestedKind X.prog X.w) (show X.A.units + 1 + 8 < cLine from hu) ⟨kis I.hok k hk rfl, dk⟩ dd hw ⟨z, H, I.tok _, rw', q⟩
theorem or_nin (hu : X.A.units + 9 < cLine) : OpR X (compareOp .In) (rNIn X.w false) := by
  intro pns s σ H x y v u Q I rx ry got
  obtain ⟨a, o, rfl, ⟨xs, k, b, e, ks, rfl, hk, dk, l⟩, q⟩ := got
  cases ry
  cases (show v = Value.ref b from rx)
  obtain ⟨_, hd, ys, p, dd⟩ := nd_any I.hok e ks
  refine wpAny_in_heap (knd := nestedKind X.prog X.w) (show X.A.units + 1 + 8 < cLine from hu) ⟨kis I.hok k hk rfl, dk⟩ hd dd ?_
  rw [NPair.isSome k p, ← l]
  exact ⟨.bl o.isSome, H, I.tok _, rfl, q⟩
theorem or_nnin (hu : X.A.units + 9 < cLine) : OpR X (compareOp .NotIn) (rNIn X.w true) := by
  intro pns s σ H x y v u Q I rx ry got
  obtain ⟨a, o, rfl, ⟨xs, k, b, e, ks, rfl, hk, dk, l⟩, q⟩ := got
  cases ry
  cases (show v = Value.ref b from rx)
  obtain ⟨_, hd, ys, p, dd⟩ := nd_any I.hok e ks
  refine wpAny_notIn_heap (knd := nestedKind X.prog X.w) (show X.A.units + 1 + 8 < cLine from hu) ⟨kis I.hok k hk rfl, dk⟩ hd dd ?_
  rw [NPair.isSome k p, ← l]
  exact ⟨.bl (!o.isSome), H, I.tok _, rfl, q⟩
end
/-- the mirrors -/
def fNGet (x y : D) : Option O := match x, nkT y with
  | .dcn kds, some k => (getN kds k).map .val
  | _, _ => none
def fNIn (neg : Bool) (y x : D) : Option O := match x, nkT y with
  | .dcn kds, some k => some (.val (.bl (if neg = true then !(getN kds k).isSome else (getN kds k).isSome)))
  | .dic [], some k => some (.val (.bl neg))
  | _, _ => none
section
variable {G : Cn} {F H : Hp}
theorem nkT_x {v : V} {d : D} {k : NestedKey} (h : RepX G F H v d) (e : Lx F H) (q : nkT d = some k) : ∃ b, v = .ref b ∧ KRep H v k ∧ k.depth ≤ 8 := by
  unfold nkT at q
  split at q
  · rename_i ds
    obtain ⟨k', q1, q2⟩ := Option.bind_eq_some_iff.mp q
    split at q2
    · cases q2
      obtain ⟨a, vs, rfl, h1, h2, h3⟩ := h.t e
      have r : Rep G F (.ref a) (.tup ds) := by unfold Rep; exact ⟨a, vs, rfl, h1, h3⟩
      exact ⟨a, rfl, (krep_of _ r q1).lx e, by assumption⟩
    · cases q2
  · cases q
theorem os_nget : OSem G (rNGet G.w) fNGet := fun {E F H σ ρ α Q x y dx dy} S hx hy h => by
  unfold fNGet at h
  split at h
  · rename_i kds k e
    obtain ⟨a, xs, rfl, h1, h2, _⟩ := hx.n S.ex
    obtain ⟨b, rfl, hk, dk⟩ := nkT_x hy S.ex e
    cases q : getN kds k with
    | none => rw [q] at h; exact h.elim
    | some d =>
      rw [q] at h
      obtain ⟨v, e1, r⟩ := (h2.get k).1 d q
      exact ⟨a, v, rfl, ⟨xs, k, b, .inl h1, h2.ks.lx S.ex, rfl, hk, dk, e1.symm⟩, Post.val h S r⟩
  · exact h.elim
theorem os_nin {neg : Bool} : OSem G (rNIn G.w neg) (fNIn neg) := fun {E F H σ ρ α Q x y dx dy} S hx hy h => by
  unfold fNIn at h
  split at h
  · rename_i kds k e
    obtain ⟨a, xs, rfl, h1, h2, _⟩ := hy.n S.ex
    obtain ⟨b, rfl, hk, dk⟩ := nkT_x hx S.ex e
    refine ⟨a, valN xs k, rfl, ⟨xs, k, b, .inl h1, h2.ks.lx S.ex, rfl, hk, dk, rfl⟩, ?_⟩
    rw [h2.isSome k]
    exact Post.val h S Rep.ofBl
  · rename_i k e
    obtain ⟨a, vs, rfl, h1, h2⟩ := hy.k S.ex
    obtain rfl := h2.of_nil
    obtain ⟨b, rfl, hk, dk⟩ := nkT_x hx S.ex e
    refine ⟨a, none, rfl, ⟨[], k, b, .inr ⟨rfl, h1⟩, fun x hx => (nomatch hx), rfl, hk, dk, rfl⟩, ?_⟩
    have e2 : (if neg = true then !(none : Option V).isSome else (none : Option V).isSome) = neg := by cases neg <;> rfl
    rw [e2]
    exact Post.val h S Rep.ofBl
  · exact h.elim
end
/-! all of them together -/
abbrev rIxB (K : PySem.W.Frag) (w : World) : R2 := fun x y H Q => rIxA K x y H Q ∨ rNGet w x y H Q
theorem ix_allB {X : Cx} (hu : X.A.units + 1 < cLine) (hu9 : X.A.units + 9 < cLine) : IxR X (rIxB X.K X.w) := (ix_all hu).or (ix_nget hu9)
def fIxB : D → D → Option O := fOr fIxA fNGet
theorem os_ixB {G : Cn} : OSem G (rIxB G.K G.w) fIxB := os_or os_ixA os_nget
def fInC (neg : Bool) : D → D → Option O := fOr (fInB neg) (fNIn neg)
theorem os_inC {G : Cn} {neg : Bool} : OSem G (fun x y H Q => rInB G.K neg x y H Q ∨ rNIn G.w neg x y H Q) (fInC neg) := os_or os_inB os_nin

/-! ### d[k] = v, whatever kind of key -/
def NPut (w : World) (H : Hp) (a : Addr) (y v : V) (H' : Hp) : Prop := ∃ xs k b, (H a = some (NDo w a xs) ∨ (xs = [] ∧ H a = some (.dK []))) ∧ KsOk H xs ∧ y = .ref b ∧ KRep H y k ∧ k.depth ≤ 8 ∧ xs.length < sizeLine ∧ H' = upd H a (NDo w a (storeN xs k b v))
def sAPut (w : World) (td ty tv : TE) : TS := fun D σ H => tv σ H fun v H1 => td σ H1 fun x H2 => ty σ H2 fun y H3 => ∃ a H4, x = .ref a ∧ (DPut H3 a y v H4 ∨ NPut w H3 a y v H4) ∧ D.nx σ H4
section
variable {X : Cx} {o i value : Expr} {td ty tv : TE} {pos pos' : Pos}
theorem nput_ok {pins : List (Addr × Obj)} {σ : L2.St} {H H' : Hp} {s : Shared} {a : Addr} {y v : V} {u r : Value} {A : Around} {E : Value → Shared → Prop} {Q : Unit → Shared → Prop} (hu : A.units + 9 < cLine) (I : Inv X pins σ H s) (g : NPut X.w H a y v H') (ry : RelV y u) (rv : RelV v r) (h : ∀ s', Inv X pins σ H' s' → Q () s') :
    wpAny (model X.prog X.w) A (setItem (.ref a) u r) Q E s := by
  obtain ⟨xs, k, b, e, ks, rfl, hk, dk, hl, rfl⟩ := g
  cases (show u = Value.ref b from ry)
  have ea : NAt X.w H a xs := e.elim (fun z => .inl (.inl z)) fun z => .inr ⟨z.1, .inl z.2⟩
  have mu : Mut (H a) := by
    rcases e with e | ⟨_, e⟩
    · rw [e]; exact True.intro
    · rw [e]; exact True.intro
  obtain ⟨z, hd, ys, p, dd⟩ := nd_any I.hok ea ks
  have hz : ys.length ≤ sizeLine := by rw [← Paired.length p]; exact z
  refine wpAny_setItem_heap (hsz := hz) (knd := nestedKind X.prog X.w) (show A.units + 1 + 8 < cLine from hu) ⟨kis I.hok k hk rfl, dk⟩ dd fun h' dd' hs => h _ ?_
  obtain ⟨q, es, ep, hq, h2, h3, h4, _, h5⟩ := dd'
  have sl : (storeN xs k b v).length ≤ sizeLine := by
    unfold storeN
    split
    · rw [List.length_map]; omega
    · rw [List.length_append]; simp; omega
  refine d_write I mu hs ⟨q, hq⟩ ?_
  exact ⟨⟨sl, hd, _, NPair.put p rv, q, es, ep, hq, h2, h3, h4, h5⟩, ⟨q, hq⟩, fun h1 h2 n k => n.keeps k⟩
theorem ps_aput (hu : X.A.units + 1 < cLine) (hu9 : X.A.units + 9 < cLine) (ho : PE X o td) (hi : PE X i ty) (hv : PE X value tv) (hs : swapsWith value (some (.Subscript o i pos')) pos.line X.env = pure false) :
    PS X (.Assign [.Subscript o i pos'] value pos) (sAPut X.w td ty tv) := by
  constructor
  intro pins s σ H D I want
  refine wpAny_Assign_Subscript ?_ hs
  refine thn (hv.run pins s σ H _ I want) ?_
  rintro val sA ⟨vv, HA, IA, rvv, qA⟩
  refine thn (ho.run pins sA σ HA _ IA qA) ?_
  rintro obj sB ⟨ov, HB, IB, rov, qB⟩
  refine thn (hi.run pins sB σ HB _ IB qB) ?_
  rintro key sC ⟨kv, HC, IC, rkv, ad, HD, eq, put, qC⟩
  cases eq
  cases (show obj = Value.ref ad from rov)
  exact put.elim (fun g => d_setItem hu IC g rkv rvv fun sD ID => ⟨σ, HD, ID, qC⟩) fun g => nput_ok hu9 IC g rkv rvv fun sD ID => ⟨σ, HD, ID, qC⟩
end
/-- d[k] = e, d in a slot -/
def dputO (o : O) (x v : D) : Option O := match o, keyD x with
  | .dic kds, some key => if kds.length < 100000 then some (.dic (putD kds key v)) else none
  | .dic [], none => (nkT x).map fun k => .dcn [(k, v)]
  | .dcn kds, none => (nkT x).bind fun k => if kds.length < 100000 then some (.dcn (putN kds k v)) else none
  | _, _ => none
def sAPutM (i : Nat) (k v : M) : MS := fun _ ρ => bnd (v ρ) fun o ρ1 => (look ρ1 i).bind fun _ => bnd (k ρ1) fun x ρ2 => match ρ2[i]? with
  | some (some d) => (dputO d x.frz o.frz).map fun d' => (.ok .nx, ρ2.set i (some d'))
  | _ => none
section
variable {G : Cn} {E : XK} {F F1 H H1 : Hp} {σ : L2.St} {ρ ρ1 : Rho} {α α1 : Al} {i : Nat}
theorem Ste.slotN {ds : List (NestedKey × D)} (S : Ste G F H σ ρ α) (h : ρ[i]? = some (some (.dcn ds))) : ∃ a xs, σ[i]? = some (some (.ref a)) ∧ α i = [a] ∧ H a = some (NDo G.w a xs) ∧ RepsN G F xs ds := by
  obtain ⟨v, h1, r⟩ := S.slot i _ h
  obtain ⟨a, vs, rfl, e1, e2, e3, e4⟩ := r
  exact ⟨a, vs, h1, e1, e3, e4⟩
theorem Ste.writeN {o : O} {ds' : List (NestedKey × D)} {a : Addr} {xs' : List (NestedKey × Addr × V)} (S : Ste G F H σ ρ α) (h : ρ[i]? = some (some o)) (ha : α i = [a]) (hv : σ[i]? = some (some (.ref a))) (hf : F a = none) (r : RepsN G F xs' ds') : Ste G F (upd H a (NDo G.w a xs')) σ (ρ.set i (some (.dcn ds'))) α :=
  S.write h (by rw [ha]; simp) fun v hv' q => by
    rw [hv] at hv'
    cases hv'
    exact ⟨a, xs', rfl, ha, hf, upd_same, r⟩
theorem dput_do {o o' : O} {x v : D} {y u : V} (S : Ste G F H σ ρ α) (e1 : ρ[i]? = some (some o)) (e : dputO o x v = some o') (rx : Rep G F y x) (rv : Rep G F u v) :
    ∃ p H4, σ[i]? = some (some (.ref p)) ∧ Own α p ∧ (DPut H p y u H4 ∨ NPut G.w H p y u H4) ∧ Ste G F H4 σ (ρ.set i (some o')) α ∧ Stp (Own α) F H F H4 := by
  unfold dputO at e
  split at e
  · rename_i kds key e2
    split at e
    · rename_i hl
      cases e
      obtain ⟨p, vs, hv', hp, hh, hr⟩ := S.slotD e1
      obtain rfl := key_x (H := H) (.inl rx) e2
      have ow : Own α p := own_of hp (by simp)
      exact ⟨p, _, hv', ow, .inl (DPut.k hh (Nat.lt_of_lt_of_le (by rw [hr.length]; exact hl) (by decide))), S.writeD e1 hp (hr.put rv), Stp.write ow⟩
    · cases e
  · rename_i e2
    obtain ⟨k, ek, rfl⟩ := Option.map_eq_some_iff.mp e
    obtain ⟨p, vs, hv', hp, hh, hr⟩ := S.slotD e1
    obtain rfl := hr.of_nil
    obtain ⟨b, rfl, hk, dk⟩ := nkT_x (H := H) (.inl rx) S.ex ek
    obtain ⟨b', q, hkF, _⟩ := nkT_x (H := F) (.inl rx) (.of (Ex.refl F)) ek
    cases q
    have ow : Own α p := own_of hp (by simp)
    exact ⟨p, _, hv', ow, .inr ⟨[], k, b, .inr ⟨rfl, hh⟩, fun x hx => (nomatch hx), rfl, hk, dk, by rw [sizeLine_eq]; decide, rfl⟩, S.writeN e1 hp hv' (S.own ow).1 (RepsN.put (ds := []) RepsN.nil ⟨hkF, dk⟩ rv), Stp.write ow⟩
  · rename_i kds e2
    obtain ⟨k, ek, e⟩ := Option.bind_eq_some_iff.mp e
    split at e
    · rename_i hl
      cases e
      obtain ⟨p, xs, hv', hp, hh, hr⟩ := S.slotN e1
      obtain ⟨b, rfl, hk, dk⟩ := nkT_x (H := H) (.inl rx) S.ex ek
      obtain ⟨b', q, hkF, _⟩ := nkT_x (H := F) (.inl rx) (.of (Ex.refl F)) ek
      cases q
      have ow : Own α p := own_of hp (by simp)
      have len : xs.length = kds.length := by
        clear hh e hl e1
        induction kds generalizing xs with
        | nil => rw [hr.of_nil]; rfl
        | cons z zs ih =>
          obtain ⟨q, v, r, rfl, _, _, t⟩ := hr.of_cons
          rw [List.length_cons, List.length_cons, ih _ t]
      exact ⟨p, _, hv', ow, .inr ⟨xs, k, b, .inl hh, hr.ks.lx S.ex, rfl, hk, dk, Nat.lt_of_lt_of_le (by rw [len]; exact hl) (by decide), rfl⟩, S.writeN e1 hp hv' (S.own ow).1 (hr.put ⟨hkF, dk⟩ rv), Stp.write ow⟩
    · cases e
  · cases e
theorem semS_aput {tk tv : TE} {mk mv : M} (hk : Sem G E tk mk) (hv : Sem G E tv mv) : SemS G E (sAPut G.w (tVar i) tk tv) (sAPutM i mk mv) := ⟨fun {F H σ ρ α D pins} S h =>
  hv.run S (Post.to h fun o ρ1 v F1 H1 α1 S1 r1 T1 N1 h1 => by
    cases e : look ρ1 i with
    | none => rw [e] at h1; exact h1.elim
    | some d0 =>
      rw [e] at h1
      obtain ⟨u, hu, _⟩ := look_x S1 e
      refine ⟨u, hu, hk.run S1 (Post.to (PostS.shift T1 N1 .refl h1) fun x ρ2 w F2 H2 α2 S2 r2 T2 N2 h2 => ?_)⟩
      split at h2
      · rename_i d e1
        cases e2 : dputO d x.frz o.frz with
        | none => rw [e2] at h2; exact h2.elim
        | some d' =>
          rw [e2] at h2
          obtain ⟨p, H4, hp, ow, g, S4, T4⟩ := dput_do S2 e1 e2 r2 (r1.mono T2.exF)
          rw [hu] at hp
          cases hp
          exact ⟨p, H4, rfl, g, PostS.shift T2 N2 .refl h2 σ F2 _ α2 S4 T4 .refl .refl⟩
      · exact h2.elim)⟩
end
end VL

namespace VL
open PySem PySem.Spec
open PyProof.Rows L2
open Evl (Ex sz_of)

/-! ### a slot lent: its object stands aside while something else is reckoned -/
section
variable {G : Cn} {E : XK} {F F1 F2 H H1 H2 : Hp} {σ : L2.St} {ρ ρ1 ρ2 : Rho} {α α1 α2 : Al} {i : Nat}
theorem Ste.lend (S : Ste G F H σ ρ α) : Ste G F H σ (ρ.set i none) (Al.set α i []) where
  ex := S.ex
  len := by rw [List.length_set]; exact S.len
  slot := fun j o e => by
    by_cases q : j = i
    · subst q
      by_cases hl : j < ρ.length
      · rw [List.getElem?_set_self hl] at e
        cases e
      · rw [List.getElem?_eq_none (by rw [List.length_set]; omega)] at e
        cases e
    · rw [List.getElem?_set_ne (Ne.symm q)] at e
      rw [Al.set_ne q]
      exact S.slot j o e
  off := fun j h => by
    by_cases q : j = i
    · subst q
      exact Al.set_eq
    · rw [Al.set_ne q]
      exact S.off j fun o e => h o (by rw [List.getElem?_set_ne (Ne.symm q)]; exact e)
  dis := fun j k a ne hj hk => by
    by_cases q : j = i
    · subst q
      rw [Al.set_eq] at hj
      cases hj
    · rw [Al.set_ne q] at hj
      by_cases q2 : k = i
      · subst q2
        rw [Al.set_eq] at hk
        cases hk
      · rw [Al.set_ne q2] at hk
        exact S.dis j k a ne hj hk
theorem Al.lend_own {a : Addr} (h : Own (Al.set α i []) a) : Own α a := (Al.own_set h).elim id fun z => nomatch z
theorem Ste.lent_not (S : Ste G F H σ ρ α) {a : Addr} (h : a ∈ α i) : ¬ Own (Al.set α i []) a := fun ⟨j, hj⟩ => by
  by_cases q : j = i
  · subst q
    rw [Al.set_eq] at hj
    cases hj
  · rw [Al.set_ne q] at hj
    exact S.dis j i a q hj h
/-- what is neither one's own nor frozen stands as before -/
theorem RepO.aside {β : List Addr} {v : V} {o : O} {A : Addr → Prop} (r : RepO G F H β v o) (T : Stp A F H F2 H2) (n : ∀ b ∈ β, ¬ A b) : RepO G F2 H2 β v o :=
  r.move T.exF (fun b hb => by
    obtain ⟨f0, u, hu⟩ := r.mem b hb
    cases q : F2 b with
    | none => rfl
    | some o => rcases T.newF b o q with z | z | z
                · rw [f0] at z; cases z
                · rw [hu] at z; cases z
                · exact absurd z (n b hb)) fun b hb u hu => T.kept hu (n b hb) (.inl (r.mem b hb).1)
/-- it comes back -/
theorem Ste.back {o : O} {v : V} (S : Ste G F H σ ρ α) (ho : ρ[i]? = some (some o)) (hv : σ[i]? = some (some v)) (S2 : Ste G F2 H2 σ ρ2 α2) (T : Stp (Own (Al.set α i [])) F H F2 H2) (N : New (Own (Al.set α i [])) H (Own α2)) :
    RepO G F2 H2 (α i) v o ∧ Ste G F2 H2 σ (ρ2.set i (some o)) (Al.set α2 i (α i)) ∧ Stp (Own α) F H F2 H2 ∧ New (Own α) H (Own (Al.set α2 i (α i))) := by
  obtain ⟨v', hv', r⟩ := S.slot i o ho
  rw [hv] at hv'
  cases hv'
  have r2 : RepO G F2 H2 (α i) v o := r.aside T fun b hb => S.lent_not hb
  have hi : i < ρ2.length := by rw [← S2.len, S.len]; exact (List.getElem?_eq_some_iff.mp ho).1
  have st := S2.store (i := i) (o := o) (v := v) (β := α i) r2 (fun j hj a ha haj => by
    rcases N a ⟨j, haj⟩ with z | z
    · exact S.lent_not ha z
    · obtain ⟨_, u, hu⟩ := r.mem a ha
      rw [hu] at z
      cases z) hi
  have es : σ.set i (some v) = σ := by
    obtain ⟨hl, e⟩ := List.getElem?_eq_some_iff.mp hv
    rw [← e]
    exact List.set_getElem_self hl
  rw [es] at st
  refine ⟨r2, st, T.weak fun a z => Al.lend_own z, fun a z => ?_⟩
  rcases Al.own_set z with z | z
  · exact (N a z).elim (fun y => .inl (Al.lend_own y)) .inr
  · exact .inl ⟨i, z⟩
end

/-! ### trees of one's own: self.f = an object of one's own, self.f[k] = v -/
def dT {A : Type} (xs : List (A × D)) : List (A × T) := xs.map fun p => (p.1, .d p.2)
def trOf : O → Option (Nat × List (Str × T))
  | .ins c fs => some (c, dT fs)
  | .tr (.i c fts) => some (c, fts)
  | _ => none
def toT : O → Option T
  | .val d => some (.d d)
  | .lst ds => some (.l (ds.map .d))
  | .dic kds => some (.k (dT kds))
  | .dcn kds => some (.n (dT kds))
  | .tr t => some t
  | _ => none
def unT {A : Type} : List (A × T) → Option (List (A × D))
  | [] => some []
  | (k, .d x) :: r => (unT r).map ((k, x) :: ·)
  | _ => none
def unTs : List T → Option (List D)
  | [] => some []
  | .d x :: r => (unTs r).map (x :: ·)
  | _ => none
def ofT : T → Option O
  | .d x => some (.val x)
  | .l ts => (unTs ts).map .lst
  | .k kts => (unT kts).map .dic
  | .n kts => (unT kts).map .dcn
  | _ => none
def setT (f : Str) (t : T) : List (Str × T) → List (Str × T)
  | [] => []
  | (g, x) :: r => match f == g with
    | true => (g, t) :: r
    | false => (g, x) :: setT f t r
section
variable {G : Cn} {F H H' : Hp}
theorem repTs_d : ∀ {ds : List D} {vs : List V}, Reps G F vs ds → RepTs G F H [] vs (ds.map .d)
  | [], vs, h => by
    rw [h.of_nil]
    unfold List.map RepTs
    exact ⟨rfl, rfl⟩
  | d :: ds, vs, h => by
    obtain ⟨v, r, rfl, q, t⟩ := h.of_cons
    unfold List.map RepTs
    refine ⟨v, r, [], [], rfl, rfl, ?_, repTs_d t⟩
    unfold RepT
    exact ⟨rfl, q⟩
theorem repTk_d : ∀ {ds : List (Key × D)} {vs : List (Key × V)}, RepsK G F vs ds → RepTk G F H [] vs (dT ds)
  | [], vs, h => by
    rw [h.of_nil]
    unfold dT List.map RepTk
    exact ⟨rfl, rfl⟩
  | (k, d) :: ds, vs, h => by
    obtain ⟨v, r, rfl, q, t⟩ := h.of_cons
    unfold dT List.map RepTk
    refine ⟨v, r, [], [], rfl, rfl, ?_, repTk_d t⟩
    unfold RepT
    exact ⟨rfl, q⟩
theorem repTn_d : ∀ {ds : List (NestedKey × D)} {vs : List (NestedKey × Addr × V)}, RepsN G F vs ds → RepTn G F H [] vs (dT ds)
  | [], vs, h => by
    rw [h.of_nil]
    unfold dT List.map RepTn
    exact ⟨rfl, rfl⟩
  | (k, d) :: ds, vs, h => by
    obtain ⟨a, v, r, rfl, hk, q, t⟩ := h.of_cons
    unfold dT List.map RepTn
    refine ⟨a, v, r, [], [], rfl, rfl, hk, ?_, repTn_d t⟩
    unfold RepT
    exact ⟨rfl, q⟩
theorem repTf_d : ∀ {ds : List (Str × D)} {vs : List (Str × V)}, RepsF G F vs ds → RepTf G F H [] vs (dT ds)
  | [], vs, h => by
    unfold RepsF at h
    subst h
    unfold dT List.map RepTf
    exact ⟨rfl, rfl⟩
  | (k, d) :: ds, vs, h => by
    unfold RepsF at h
    obtain ⟨v, r, rfl, q, t⟩ := h
    unfold dT List.map RepTf
    refine ⟨v, r, [], [], rfl, rfl, ?_, repTf_d t⟩
    unfold RepT
    exact ⟨rfl, q⟩
theorem toT_rep {β : List Addr} {v : V} {o : O} {t : T} (h : RepO G F H β v o) (e : toT o = some t) : RepT G F H β v t := by
  cases o with
  | val d =>
    cases e
    unfold RepT
    exact h
  | lst ds =>
    cases e
    obtain ⟨a, vs, rfl, rfl, e1, e2, e3⟩ := h
    unfold RepT
    exact ⟨a, vs, [], rfl, rfl, e1, e2, repTs_d e3⟩
  | dic ds =>
    cases e
    obtain ⟨a, vs, rfl, rfl, e1, e2, e3⟩ := h
    unfold RepT
    exact ⟨a, vs, [], rfl, rfl, e1, e2, repTk_d e3⟩
  | dcn ds =>
    cases e
    obtain ⟨a, vs, rfl, rfl, e1, e2, e3⟩ := h
    unfold RepT
    exact ⟨a, vs, [], rfl, rfl, e1, e2, repTn_d e3⟩
  | ins c fs => cases e
  | ll dss => cases e
  | tr t' =>
    cases e
    exact h.2
theorem toT_nd {β : List Addr} {v : V} {o : O} {t : T} (h : RepO G F H β v o) (e : toT o = some t) : β.Nodup := by
  cases o with
  | val d =>
    obtain ⟨rfl, _⟩ := h
    exact List.nodup_nil
  | lst ds =>
    obtain ⟨a, vs, _, rfl, _⟩ := h
    simp
  | dic ds =>
    obtain ⟨a, vs, _, rfl, _⟩ := h
    simp
  | dcn ds =>
    obtain ⟨a, vs, _, rfl, _⟩ := h
    simp
  | ins c fs => cases e
  | ll dss => cases e
  | tr t' => exact h.1
theorem unT_k : ∀ {kts : List (Key × T)} {kds : List (Key × D)} {β : List Addr} {vs : List (Key × V)}, RepTk G F H β vs kts → unT kts = some kds → β = [] ∧ RepsK G F vs kds
  | [], kds, β, vs, h, e => by
    cases e
    unfold RepTk at h
    exact ⟨h.1, by rw [h.2]; exact .nil⟩
  | (k, t) :: kts, kds, β, vs, h, e => by
    cases t <;> simp only [unT] at e <;> first | (cases e; done) | skip
    obtain ⟨r', e1, rfl⟩ := Option.map_eq_some_iff.mp e
    unfold RepTk at h
    obtain ⟨v, r, β1, β2, rfl, rfl, h1, h2⟩ := h
    obtain ⟨rfl, h3⟩ := unT_k h2 e1
    unfold RepT at h1
    obtain ⟨rfl, h1⟩ := h1
    exact ⟨rfl, .cons h1 h3⟩
theorem unT_n : ∀ {kts : List (NestedKey × T)} {kds : List (NestedKey × D)} {β : List Addr} {vs : List (NestedKey × Addr × V)}, RepTn G F H β vs kts → unT kts = some kds → β = [] ∧ RepsN G F vs kds
  | [], kds, β, vs, h, e => by
    cases e
    unfold RepTn at h
    exact ⟨h.1, by rw [h.2]; exact .nil⟩
  | (k, t) :: kts, kds, β, vs, h, e => by
    cases t <;> simp only [unT] at e <;> first | (cases e; done) | skip
    obtain ⟨r', e1, rfl⟩ := Option.map_eq_some_iff.mp e
    unfold RepTn at h
    obtain ⟨q, v, r, β1, β2, rfl, rfl, hk, h1, h2⟩ := h
    obtain ⟨rfl, h3⟩ := unT_n h2 e1
    unfold RepT at h1
    obtain ⟨rfl, h1⟩ := h1
    exact ⟨rfl, .cons hk h1 h3⟩
theorem unTs_l : ∀ {ts : List T} {ds : List D} {β : List Addr} {vs : List V}, RepTs G F H β vs ts → unTs ts = some ds → β = [] ∧ Reps G F vs ds
  | [], ds, β, vs, h, e => by
    cases e
    unfold RepTs at h
    exact ⟨h.1, by rw [h.2]; exact .nil⟩
  | t :: ts, ds, β, vs, h, e => by
    cases t <;> simp only [unTs] at e <;> first | (cases e; done) | skip
    obtain ⟨r', e1, rfl⟩ := Option.map_eq_some_iff.mp e
    unfold RepTs at h
    obtain ⟨v, r, β1, β2, rfl, rfl, h1, h2⟩ := h
    obtain ⟨rfl, h3⟩ := unTs_l h2 e1
    unfold RepT at h1
    obtain ⟨rfl, h1⟩ := h1
    exact ⟨rfl, .cons h1 h3⟩
theorem ofT_rep {β : List Addr} {v : V} {o : O} {t : T} (h : RepT G F H β v t) (e : ofT t = some o) : RepO G F H β v o := by
  cases t with
  | d x =>
    cases e
    unfold RepT at h
    exact h
  | l ts =>
    obtain ⟨ds, e1, rfl⟩ := Option.map_eq_some_iff.mp e
    unfold RepT at h
    obtain ⟨a, vs, r, rfl, rfl, h1, h2, h3⟩ := h
    obtain ⟨rfl, h4⟩ := unTs_l h3 e1
    exact ⟨a, vs, rfl, rfl, h1, h2, h4⟩
  | k ts =>
    obtain ⟨ds, e1, rfl⟩ := Option.map_eq_some_iff.mp e
    unfold RepT at h
    obtain ⟨a, vs, r, rfl, rfl, h1, h2, h3⟩ := h
    obtain ⟨rfl, h4⟩ := unT_k h3 e1
    exact ⟨a, vs, rfl, rfl, h1, h2, h4⟩
  | n ts =>
    obtain ⟨ds, e1, rfl⟩ := Option.map_eq_some_iff.mp e
    unfold RepT at h
    obtain ⟨a, vs, r, rfl, rfl, h1, h2, h3⟩ := h
    obtain ⟨rfl, h4⟩ := unT_n h3 e1
    exact ⟨a, vs, rfl, rfl, h1, h2, h4⟩
  | i c ts => cases e
theorem RepTf.length : ∀ {β : List Addr} {vs : List (Str × V)} {fts : List (Str × T)}, RepTf G F H β vs fts → vs.length = fts.length
  | _, _, [], h => by
    unfold RepTf at h
    rw [h.2]
    rfl
  | _, _, (k, t) :: r, h => by
    unfold RepTf at h
    obtain ⟨v, r', β1, β2, rfl, rfl, _, h2⟩ := h
    rw [List.length_cons, List.length_cons, RepTf.length h2]
theorem RepTf.none {f : Str} : ∀ {β : List Addr} {vs : List (Str × V)} {fts : List (Str × T)}, RepTf G F H β vs fts → fts.lookup f = none → vs.lookup f = none
  | _, _, [], h, _ => by
    unfold RepTf at h
    rw [h.2]
    rfl
  | _, _, (k, t) :: r, h, e => by
    unfold RepTf at h
    obtain ⟨v, r', β1, β2, rfl, rfl, _, h2⟩ := h
    unfold List.lookup at e ⊢
    split at e
    · cases e
    · exact RepTf.none h2 e
/-- a field's place in the tree -/
theorem RepTf.at {f : Str} {t : T} : ∀ {β : List Addr} {vs : List (Str × V)} {fts : List (Str × T)}, RepTf G F H β vs fts → fts.lookup f = some t → ∃ v β1 βt β2, vs.lookup f = some v ∧ β = β1 ++ (βt ++ β2) ∧ RepT G F H βt v t ∧
    ∀ (H' : Hp) (t' : T), (∀ b ∈ β1 ++ β2, H' b = H b) → RepT G F H' βt v t' → RepTf G F H' β vs (setT f t' fts)
  | _, _, [], h, e => by cases e
  | _, _, (k, t0) :: r, h, e => by
    unfold RepTf at h
    obtain ⟨v, r', β1, β2, rfl, rfl, h1, h2⟩ := h
    unfold List.lookup at e
    cases q : f == k with
    | true =>
      rw [q] at e
      cases e
      refine ⟨v, [], β1, β2, by unfold List.lookup; rw [q], rfl, h1, fun H' t' hk ht => ?_⟩
      unfold setT
      rw [q]
      unfold RepTf
      exact ⟨v, r', β1, β2, rfl, rfl, ht, RepTf.move (Ex.refl F) r h2 (fun b hb => (RepTf.mem r h2 b hb).1) fun b hb o ho => by rw [hk b (by simpa using hb)]; exact ho⟩
    | false =>
      rw [q] at e
      obtain ⟨w, γ1, γt, γ2, e1, rfl, e3, e4⟩ := RepTf.at h2 e
      refine ⟨w, β1 ++ γ1, γt, γ2, by unfold List.lookup; rw [q]; exact e1, by simp, e3, fun H' t' hk ht => ?_⟩
      unfold setT
      rw [q]
      unfold RepTf
      refine ⟨v, r', β1, γ1 ++ (γt ++ γ2), rfl, rfl, ?_, e4 H' t' (fun b hb => hk b ?_) ht⟩
      · exact RepT.move (Ex.refl F) t0 h1 (fun b hb => (RepT.mem t0 h1 b hb).1) fun b hb o ho => by rw [hk b (by simp [hb])]; exact ho
      · rcases List.mem_append.mp hb with z | z
        · simp [z]
        · simp [z]
theorem RepTf.snoc {f : Str} {t : T} {v : V} {βt : List Addr} (ht : RepT G F H βt v t) : ∀ {β : List Addr} {vs : List (Str × V)} {fts : List (Str × T)}, RepTf G F H β vs fts → RepTf G F H (β ++ βt) (vs ++ [(f, v)]) (fts ++ [(f, t)])
  | _, _, [], h => by
    unfold RepTf at h
    obtain ⟨rfl, rfl⟩ := h
    show RepTf G F H ([] ++ βt) [(f, v)] [(f, t)]
    unfold RepTf
    refine ⟨v, [], βt, [], rfl, by simp, ht, ?_⟩
    unfold RepTf
    exact ⟨rfl, rfl⟩
  | _, _, (k, t0) :: r, h => by
    unfold RepTf at h
    obtain ⟨w, r', β1, β2, rfl, rfl, h1, h2⟩ := h
    show RepTf G F H (β1 ++ β2 ++ βt) ((k, w) :: (r' ++ [(f, v)])) ((k, t0) :: (r ++ [(f, t)]))
    unfold RepTf
    exact ⟨w, r' ++ [(f, v)], β1, β2 ++ βt, rfl, by simp, h1, RepTf.snoc ht h2⟩
/-- an instance as a tree -/
theorem trOf_rep {β : List Addr} {v : V} {o : O} {c : Nat} {fts : List (Str × T)} (h : RepO G F H β v o) (e : trOf o = some (c, fts)) :
    ∃ a dx vs r, v = .ref a ∧ β = a :: dx :: r ∧ β.Nodup ∧ F a = none ∧ F dx = none ∧ H a = some (.ins (G.cls c) dx vs) ∧ H dx = some (.own a) ∧ RepTf G F H r vs fts := by
  cases o with
  | ins c' fs =>
    cases e
    obtain ⟨a, dx, vs, rfl, rfl, ne, e1, e2, e3, e4, e5⟩ := h
    exact ⟨a, dx, vs, [], rfl, rfl, by simp; exact fun z => ne z.symm, e1, e2, e3, e4, repTf_d e5⟩
  | tr t =>
    cases t with
    | i c' ts =>
      cases e
      obtain ⟨nd, h⟩ := h
      unfold RepT at h
      obtain ⟨a, dx, vs, r, rfl, rfl, e1, e2, e3, e4, e5⟩ := h
      exact ⟨a, dx, vs, r, rfl, rfl, nd, e1, e2, e3, e4, e5⟩
    | _ => cases e
  | _ => cases e
theorem trOf_mk {β : List Addr} {c : Nat} {fts : List (Str × T)} {a dx : Addr} {vs : List (Str × V)} {r : List Addr} (hβ : β = a :: dx :: r) (nd : β.Nodup) (e1 : F a = none) (e2 : F dx = none) (e3 : H a = some (.ins (G.cls c) dx vs)) (e4 : H dx = some (.own a)) (e5 : RepTf G F H r vs fts) : RepO G F H β (.ref a) (.tr (.i c fts)) := by
  refine ⟨nd, ?_⟩
  unfold RepT
  exact ⟨a, dx, vs, r, rfl, hβ, e1, e2, e3, e4, e5⟩
end
/-- putF of a field that is not there -/
theorem putF_new {f : Str} {z : V} : ∀ {vs : List (Str × V)}, vs.lookup f = none → putF f z vs = vs ++ [(f, z)]
  | [], _ => rfl
  | (g, x) :: r, e => by
    unfold List.lookup at e
    split at e
    · cases e
    · rename_i q
      have hg : ¬ g = f := fun y => by
        subst y
        simp at q
      unfold putF
      rw [if_neg hg, putF_new e]
      rfl
/-- self.f = e, e an object of one's own, f a new field -/
def sFldT (cs : List Nat) (f : Str) (i : Nat) (a : M) : MS := fun _ ρ => bnd (a ρ) fun o ρ1 => match ρ1[i]? with
  | some (some z) => (match trOf z, toT o with
    | some (c, fts), some t => if c ∈ cs ∧ fts.length < 900 ∧ fts.lookup f = none then some (.ok .nx, ρ1.set i (some (.tr (.i c (fts ++ [(f, t)]))))) else none
    | _, _ => none)
  | _ => none
section
variable {G : Cn} {E : XK} {F F1 H H1 : Hp} {σ : L2.St} {ρ ρ1 : Rho} {α α1 : Al} {i : Nat} {ta : TE} {ma : M}
theorem semS_fldT {cs : List Nat} {f : Str} (hc : ∀ c ∈ cs, Cls G.K (G.cls c) ∧ NoAttr G.K (G.cls c) f) (ha : Sem G E ta ma) : SemS G E (sFld G.K (tVar i) ta f) (sFldT cs f i ma) := ⟨fun {F H σ ρ α D pins} S h =>
  ha.run S (PostG.bind h fun o ρ1 h1 v F1 H1 α1 β S1 r1 T1 M1 N1 => by
    split at h1
    · rename_i z e
      split at h1
      · rename_i c fts t e1 e2
        split at h1
        · rename_i hm
          obtain ⟨u, hu, ru⟩ := S1.slot i z e
          obtain ⟨a, dx, vs, r, rfl, hβ, nd, f1, f2, h3, h4, h5⟩ := trOf_rep ru e1
          have rt := toT_rep r1 e2
          have lk : vs.lookup f = none := h5.none hm.2.2
          have oa : a ∈ α1 i := by rw [hβ]; simp
          have nb : ∀ b ∈ β, b ∉ α1 i := fun b hb hbi => M1 b hb ⟨i, hbi⟩
          have ba : a ∉ β := fun y => nb a y oa
          have nr : a ∉ r := by
            rw [hβ] at nd
            simp at nd
            exact nd.1.2
          have nx : dx ≠ a := by
            rw [hβ] at nd
            simp at nd
            exact fun y => nd.1.1 y.symm
          have βnd : β.Nodup := toT_nd r1 e2
          refine ⟨.ref a, hu, a, G.cls c, dx, vs, rfl, h3, (hc c hm.1).1, (hc c hm.1).2, by rw [h5.length]; omega, ?_⟩
          rw [putF_new lk]
          have hH : ∀ b, b ≠ a → upd H1 a (.ins (G.cls c) dx (vs ++ [(f, v)])) b = H1 b := fun b hb => upd_ne hb
          have r2 : RepO G F1 (upd H1 a (.ins (G.cls c) dx (vs ++ [(f, v)]))) (α1 i ++ β) (.ref a) (.tr (.i c (fts ++ [(f, t)]))) := by
            refine trOf_mk (r := r ++ β) (by rw [hβ]; simp) ?_ f1 f2 upd_same (by rw [hH dx nx]; exact h4) ?_
            · refine List.nodup_append.mpr ⟨by rw [hβ] at nd ⊢; exact nd, βnd, fun x hx y hy z => ?_⟩
              subst z
              exact nb x hy hx
            · refine RepTf.snoc (RepT.move (Ex.refl F1) t rt (fun b hb => (RepT.mem t rt b hb).1) fun b hb u hu => ?_) (RepTf.move (Ex.refl F1) fts h5 (fun b hb => (RepTf.mem fts h5 b hb).1) fun b hb u hu => ?_)
              · rw [hH b fun y => ba (y ▸ hb)]
                exact hu
              · rw [hH b fun y => nr (y ▸ hb)]
                exact hu
          have hi : i < ρ1.length := (List.getElem?_eq_some_iff.mp e).1
          have Sw : Ste G F1 (upd H1 a (.ins (G.cls c) dx (vs ++ [(f, v)]))) (σ.set i (some (.ref a))) (ρ1.set i (some (.tr (.i c (fts ++ [(f, t)]))))) (Al.set α1 i (α1 i ++ β)) := {
            ex := S1.ex.mut f1
            len := by rw [List.length_set, List.length_set]; exact S1.len
            slot := fun j x ej => by
              by_cases q : j = i
              · subst q
                rw [List.getElem?_set_self hi] at ej
                cases ej
                exact ⟨.ref a, List.getElem?_set_self (by rw [S1.len]; exact hi), by rw [Al.set_eq]; exact r2⟩
              · rw [List.getElem?_set_ne (Ne.symm q)] at ej
                obtain ⟨w, hw, rw'⟩ := S1.slot j x ej
                refine ⟨w, by rw [List.getElem?_set_ne (Ne.symm q)]; exact hw, ?_⟩
                rw [Al.set_ne q]
                exact rw'.move (Ex.refl F1) (fun b hb => (rw'.mem b hb).1) fun b hb u hu => by
                  rw [hH b fun y => S1.dis j i a q (y ▸ hb) oa]
                  exact hu
            off := fun j hj => by
              by_cases q : j = i
              · subst q
                exact absurd (List.getElem?_set_self hi) (hj _)
              · rw [Al.set_ne q]
                exact S1.off j fun x ej => hj x (by rw [List.getElem?_set_ne (Ne.symm q)]; exact ej)
            dis := fun j k b ne hj hk => by
              have half : ∀ m, m ≠ i → b ∈ α1 m → b ∈ α1 i ++ β → False := fun m hm h1 h2 => by
                rcases List.mem_append.mp h2 with z | z
                · exact S1.dis m i b hm h1 z
                · exact M1 b z ⟨m, h1⟩
              by_cases q : j = i
              · subst q
                rw [Al.set_eq] at hj
                rw [Al.set_ne (Ne.symm ne)] at hk
                exact half k (Ne.symm ne) hk hj
              · rw [Al.set_ne q] at hj
                by_cases q2 : k = i
                · subst q2
                  rw [Al.set_eq] at hk
                  exact half j q hj hk
                · rw [Al.set_ne q2] at hk
                  exact S1.dis j k b ne hj hk }
          have es : σ.set i (some (.ref a)) = σ := by
            obtain ⟨hl, e⟩ := List.getElem?_eq_some_iff.mp hu
            rw [← e]
            exact List.set_getElem_self hl
          rw [es] at Sw
          have Tw : Stp (fun b => Own α1 b ∨ b ∈ β) F1 H1 F1 (upd H1 a (.ins (G.cls c) dx (vs ++ [(f, v)]))) := (Stp.write (α := α1) ⟨i, oa⟩).weak fun _ z => .inl z
          exact h1 σ F1 _ _ Sw (T1.trans Tw N1) (fun b z => by
            rcases Al.own_set z with z | z
            · exact N1 b (.inl z)
            · rcases List.mem_append.mp z with z | z
              · exact N1 b (.inl ⟨i, z⟩)
              · exact N1 b (.inr z)) .refl
        · exact h1.elim
      · exact h1.elim
    · exact h1.elim)⟩
end
/-- an object changed by d[k] = v, where it stands -/
theorem dput_obj {G : Cn} {F H : Hp} {β : List Addr} {w : V} {o o' : O} {x v : D} {y u : V} (ex : Lx F H) (r : RepO G F H β w o) (e : dputO o x v = some o') (rx : Rep G F y x) (rv : Rep G F u v) :
    ∃ p ho, w = .ref p ∧ β = [p] ∧ F p = none ∧ (DPut H p y u (upd H p ho) ∨ NPut G.w H p y u (upd H p ho)) ∧ RepO G F (upd H p ho) β w o' := by
  have q : w = w ∧ β = β := ⟨rfl, rfl⟩
  have hl : Ste G F H [some w] [some o] (fun j => if j = 0 then β else []) := ⟨ex, rfl, fun i z hz => by
      cases i with
      | zero =>
        cases hz
        exact ⟨w, rfl, r⟩
      | succ i => simp at hz, fun i h => by
      cases i with
      | zero => exact absurd rfl (h o)
      | succ i => rfl, fun i j a ne hi hj => by
      cases i with
      | zero => cases j with
        | zero => exact absurd rfl ne
        | succ j => cases hj
      | succ i => cases hi⟩
  obtain ⟨p, H4, hp, ow, g, S4, T4⟩ := dput_do (i := 0) hl rfl e rx rv
  cases hp
  obtain ⟨w', hw, r'⟩ := S4.slot 0 o' rfl
  cases hw
  have hb : β = [p] := by
    cases o <;> simp only [dputO] at e <;> first
      | (obtain ⟨a, vs, e1, rfl, _⟩ := r; cases e1; rfl)
      | (cases e; done)
  have hh : ∃ ho, H4 = upd H p ho := by
    rcases g with g | ⟨xs, k, b, _, _, _, _, _, _, e4⟩
    · rcases g with ⟨kvs, k, _, _, _, e4⟩ | ⟨kvs, k, b, _, _, _, _, e4⟩
      · exact ⟨_, e4⟩
      · exact ⟨_, e4⟩
    · exact ⟨_, e4⟩
  obtain ⟨ho, rfl⟩ := hh
  exact ⟨p, ho, rfl, hb, (r.mem p (by rw [hb]; simp)).1, g, r'⟩
/-- self.f[k] = v -/
def sTPutM (cs : List Nat) (f : Str) (i : Nat) (k v : M) : MS := fun _ ρ => bnd (v ρ) fun o ρ1 => match ρ1[i]? with
  | some (some z) => (match trOf z with
    | some (c, fts) => if c ∈ cs then (match fts.lookup f with
      | some t => bnd (k (ρ1.set i none)) fun x ρ2 => (match ofT t with
        | some o2 => (match dputO o2 x.frz o.frz with
          | some o3 => (toT o3).map fun t3 => (.ok .nx, ρ2.set i (some (.tr (.i c (setT f t3 fts)))))
          | none => none)
        | none => none)
      | none => none) else none
    | none => none)
  | _ => none
section
variable {G : Cn} {E : XK} {F F1 H H1 : Hp} {σ : L2.St} {ρ ρ1 : Rho} {α α1 : Al} {i : Nat}
theorem semS_tput {cs : List Nat} {f : Str} (hc : ∀ c ∈ cs, Cls G.K (G.cls c) ∧ NoAttr G.K (G.cls c) f) {tk tv : TE} {mk mv : M} (hk : Sem G E tk mk) (hv : Sem G E tv mv) : SemS G E (sAPut G.w (tFld G.K (tVar i) f) tk tv) (sTPutM cs f i mk mv) := ⟨fun {F H σ ρ α D pins} S h =>
  hv.run S (Post.to h fun o ρ1 v F1 H1 α1 S1 r1 T1 N1 h1 => by
    split at h1
    · rename_i z e
      split at h1
      · rename_i c fts e1
        split at h1
        · rename_i hm
          split at h1
          · rename_i t et
            obtain ⟨u, hu, ru⟩ := S1.slot i z e
            obtain ⟨a, dx, vs, r, rfl, hβ, nd, f1, f2, h3, h4, h5⟩ := trOf_rep ru e1
            obtain ⟨w, β1, βt, β2, lk, hr, rt, upd5⟩ := h5.at et
            refine ⟨.ref a, hu, a, G.cls c, dx, vs, w, rfl, h3, (hc c hm).1, (hc c hm).2, lk, ?_⟩
            have S1' := S1.lend (i := i)
            have h1' := PostS.shift T1 N1 (.refl (pins := pins)) h1
            refine hk.run S1' (Post.to (PostG.shift .refl (fun a z => .inl (Al.lend_own z)) h1' fun _ _ z => z) fun x ρ2 y F2 H2 α2 S2 r2 T2 N2 h2 => ?_)
            obtain ⟨_, Sb, Tb, Nb⟩ := S1.back e hu S2 T2 N2
            have kp : ∀ b ∈ α1 i, ∀ o, H1 b = some o → H2 b = some o := fun b hb o ho => T2.kept ho (S1.lent_not hb) (.inl (ru.mem b hb).1)
            have nf : ∀ b ∈ α1 i, F2 b = none := fun b hb => by
              obtain ⟨_, _, q⟩ := Sb.slot i z (List.getElem?_set_self (by rw [← S2.len, S1.len]; exact (List.getElem?_eq_some_iff.mp e).1))
              rw [Al.set_eq] at q
              exact (RepO.mem q b hb).1
            have inr : ∀ b ∈ r, b ∈ α1 i := fun b hb => by rw [hβ]; simp [hb]
            have h5' : RepTf G F2 H2 r vs fts := RepTf.move T2.exF fts h5 (fun b hb => nf b (inr b hb)) fun b hb => kp b (inr b hb)
            obtain ⟨w', β1', βt', β2', lk', hr', rt', upd5'⟩ := h5'.at et
            rw [lk] at lk'
            cases lk'
            split at h2
            · rename_i o2 eo
              split at h2
              · rename_i o3 e3
                cases q3 : toT o3 with
                | none => rw [q3] at h2; exact h2.elim
                | some t3 =>
                  rw [q3] at h2
                  obtain ⟨p, hb, rfl, hp, fp, g, r3⟩ := dput_obj S2.ex (ofT_rep rt' eo) e3 r2 (r1.mono T2.exF)
                  subst hp
                  refine ⟨p, _, rfl, g, ?_⟩
                  have pr : p ∈ r := by rw [hr']; simp
                  have pa : a ≠ p := fun y => by
                    rw [hβ] at nd
                    simp at nd
                    exact nd.1.2 (y ▸ pr)
                  have pd : dx ≠ p := fun y => by
                    rw [hβ] at nd
                    simp at nd
                    exact nd.2.1 (y ▸ pr)
                  have nr : r.Nodup := by
                    rw [hβ] at nd
                    simp at nd
                    exact nd.2.2
                  have ei : (ρ2.set i (some z))[i]? = some (some z) := List.getElem?_set_self (by rw [← S2.len, S1.len]; exact (List.getElem?_eq_some_iff.mp e).1)
                  have Sw := Sb.write (o' := .tr (.i c (setT f t3 fts))) (u := hb) ei (by rw [Al.set_eq]; exact inr p pr) fun v hv' _ => by
                    rw [hu] at hv'
                    cases hv'
                    rw [Al.set_eq]
                    refine trOf_mk hβ nd (nf a (by rw [hβ]; simp)) (nf dx (by rw [hβ]; simp)) (vs := vs) (dx := dx) ?_ ?_ (upd5' _ _ (fun b hb' => upd_ne fun y => ?_) (toT_rep r3 q3))
                    · rw [upd_ne pa]
                      exact kp a (by rw [hβ]; simp) _ h3
                    · rw [upd_ne pd]
                      exact kp dx (by rw [hβ]; simp) _ h4
                    · subst y
                      rw [hr'] at nr
                      simp [List.nodup_append] at nr
                      rcases List.mem_append.mp hb' with y | y
                      · exact (nr.2.2 b y).1 rfl
                      · exact nr.2.1.1 y
                  rw [List.set_set] at Sw
                  have ow : Own (Al.set α2 i (α1 i)) p := ⟨i, by rw [Al.set_eq]; exact inr p pr⟩
                  exact h2 σ F2 _ _ Sw (Tb.trans (Stp.write ow) Nb) (fun b hb => Nb b hb) .refl
              · exact h2.elim
            · exact h2.elim
          · exact h1.elim
        · exact h1.elim
      · exact h1.elim
    · exact h1.elim)⟩
end
end VL

namespace VL
open PySem PySem.Spec
open PyProof.Rows L2
open Evl (Ex sz_of)

/-! ### sorted, min, max of data that are alike -/
section
variable {T U : Type} {lt : T → T → Bool} {lt' : U → U → Bool}
/-- the library's order by merging is ours by putting in -/
theorem merge_psort (O : SrtO.Swo lt) (l : List T) : l.mergeSort (fun a b => !lt b a) = psort lt l := by
  have tr : ∀ a b c : T, (!lt b a) = true → (!lt c b) = true → (!lt c a) = true := fun a b c h1 h2 => by
    rw [Bool.not_eq_true'] at h1 h2 ⊢
    exact O.tr a b c h1 h2
  have tot : ∀ a b : T, ((!lt b a) || (!lt a b)) = true := fun a b => by
    cases q : lt b a with
    | false => rfl
    | true => rw [O.asym b a q]; rfl
  have s1 : SrtO.Srtd lt (l.mergeSort fun a b => !lt b a) := (List.pairwise_mergeSort tr tot l).imp fun h => by simpa using h
  have pm : (l.mergeSort fun a b => !lt b a).Perm l := List.mergeSort_perm l _
  have cl : ∀ x, (l.mergeSort fun a b => !lt b a).filter (SrtO.eqv lt x) = l.filter (SrtO.eqv lt x) := fun x => by
    have pw : (l.filter (SrtO.eqv lt x)).Pairwise fun a b => (!lt b a) = true := by
      refine List.Pairwise.imp_of_mem (R := fun _ _ => True) (fun {a b} ha hb _ => ?_) (List.pairwise_of_forall fun _ _ => True.intro)
      have h1 := (SrtO.eqv_iff.mp (List.mem_filter.mp ha).2)
      have h2 := (SrtO.eqv_iff.mp (List.mem_filter.mp hb).2)
      rw [Bool.not_eq_true']
      exact O.tr a x b h1.1 h2.2
    have sb : (l.filter (SrtO.eqv lt x)).Sublist (l.mergeSort fun a b => !lt b a) := List.sublist_mergeSort tr tot pw List.filter_sublist
    have s2 := sb.filter (SrtO.eqv lt x)
    rw [List.filter_filter] at s2
    simp only [Bool.and_self] at s2
    exact (s2.eq_of_length (pm.filter _).length_eq.symm).symm
  exact SrtO.stb_uniq O s1 (psort_srtd O l) ⟨pm.trans (psort_stb O l).perm.symm, fun x => (cl x).trans ((psort_stb O l).cls x).symm⟩
theorem pins_rel {R : T → U → Prop} (h : ∀ a b a' b', R a a' → R b b' → lt a b = lt' a' b') {y : T} {y' : U} (hy : R y y') : ∀ {l : List T} {m : List U}, Paired R l m → Paired R (pins lt y l) (pins lt' y' m)
  | _, _, .nil => .cons hy .nil
  | _, _, .cons q t => by
    unfold pins
    rw [h _ _ _ _ hy q]
    split
    · exact .cons hy (.cons q t)
    · exact .cons q (pins_rel h hy t)
theorem psort_rel0 {R : T → U → Prop} (h : ∀ a b a' b', R a a' → R b b' → lt a b = lt' a' b') : ∀ {l : List T} {m : List U} {a : List T} {b : List U}, Paired R l m → Paired R a b → Paired R (l.foldl (fun acc y => pins lt y acc) a) (m.foldl (fun acc y => pins lt' y acc) b)
  | [], [], _, _, _, z => z
  | _ :: l, _ :: m, _, _, p, z => by
    cases p with
    | cons q t => exact psort_rel0 h (l := l) (m := m) t (pins_rel h q z)
theorem psort_rel {R : T → U → Prop} (h : ∀ a b a' b', R a a' → R b b' → lt a b = lt' a' b') {l : List T} {m : List U} (p : Paired R l m) : Paired R (psort lt l) (psort lt' m) := psort_rel0 h p .nil
end
abbrev Tk := List (Int ⊕ List Nat)
def ltTk (a b : Tk) : Bool := PyProof.Rows.lexLt PyProof.Rows.itemOrd a b
theorem ltTk_swo {A : Type} (k : A → Tk) : SrtO.Swo fun x y => ltTk (k x) (k y) where
  asym := fun x y h => by
    cases q : ltTk (k y) (k x) with
    | false => rfl
    | true => have := PyProof.Rows.lex_trans (O := PyProof.Rows.itemOrd) _ _ _ h q; rw [PyProof.Rows.lex_irrefl] at this; cases this
  tr := fun x y z h1 h2 => by
    cases q : ltTk (k z) (k x) with
    | false => rfl
    | true => rcases PyProof.Rows.lex_negTrans (O := PyProof.Rows.itemOrd) _ (k y) _ q with z' | z'
              · exact absurd z' (by rw [show PyProof.Rows.lexLt PyProof.Rows.itemOrd (k z) (k y) = false from h2]; exact Bool.false_ne_true)
              · exact absurd z' (by rw [show PyProof.Rows.lexLt PyProof.Rows.itemOrd (k y) (k x) = false from h1]; exact Bool.false_ne_true)

def akin (ps : List PyData) : Bool := ps.all fun p => ps.all fun q => PySem.W.alike p q
def tupNE : PyData → Bool
  | .tuple (_ :: _) => true
  | _ => false
def notTN : PyData → Bool
  | .none => false
  | .tuple _ => false
  | _ => true
def sortOk (ps : List PyData) : Bool := (ps.all tupNE || ps.all notTN) && (ps.all fun p => decide (p.depth ≤ 40)) && akin ps && decide (ps.length ≤ 100000)
theorem sortable_of {ps : List PyData} (h : (ps.all tupNE || ps.all notTN) = true) : PySem.W.Sortable ps := by
  rcases Bool.or_eq_true _ _ |>.mp h with h | h
  · refine .inl fun d hd => ?_
    have := List.all_eq_true.mp h d hd
    unfold tupNE at this
    split at this
    · exact ⟨_, _, rfl⟩
    · cases this
  · refine .inr fun d hd => ?_
    have := List.all_eq_true.mp h d hd
    constructor
    · rintro rfl
      cases this
    · rintro xs rfl
      cases this
theorem akin_of {ps : List PyData} (h : akin ps = true) : PySem.W.AllAlike ps := fun d hd d' hd' => List.all_eq_true.mp (List.all_eq_true.mp h d hd) d' hd'
/-- the values and what they are, sorted -/
def srtVP (xs : List (V × PyData)) : List (V × PyData) := psort (fun a b => ltTk (PySem.W.keyToks a.2) (PySem.W.keyToks b.2)) xs
def rSortDt (K : PySem.W.Frag) : List V → Hp → VK → Prop := fun vs H Q => ∃ (a : Addr) (xs : List V) (ps : List PyData), vs = [.ref a] ∧ SqL K H a xs ∧ DpAll K H xs ps ∧ sortOk ps = true ∧
  ∀ p, H p = none → Q (.ref p) (upd H p (.lst ((srtVP (xs.zip ps)).map (·.1))))
theorem dpAll_len {K : PySem.W.Frag} {H : Hp} : ∀ {xs : List V} {ps : List PyData}, DpAll K H xs ps → xs.length = ps.length
  | [], [], _ => rfl
  | _ :: _, _ :: _, h => by
    cases h with
    | cons _ t => rw [List.length_cons, List.length_cons, dpAll_len t]
  | [], _ :: _, h => by cases h
  | _ :: _, [], h => by cases h
theorem each_zip {h : Heap} : ∀ {xs : List V} {us : List Value} {ps : List PyData} {as : List Addr}, Vals xs us → ReadsAll h us ps as → PySem.W.EachIs (fun u (b : V × PyData) => RelV b.1 u) us (xs.zip ps) ∧ PySem.W.EachIs (fun u (b : V × PyData) => ∃ as, Reads h u b.2 as) us (xs.zip ps)
  | [], us, ps, as, r, d => by
    cases r
    cases d
    exact ⟨.nil, .nil⟩
  | x :: xs, us, ps, as, r, d => by
    cases r with
    | cons r1 r2 =>
      cases d with
      | cons d1 d2 =>
        obtain ⟨i1, i2⟩ := each_zip r2 d2
        exact ⟨.cons r1 i1, .cons ⟨_, d1⟩ i2⟩
theorem each_vals {us : List Value} {bs : List (V × PyData)} (h : PySem.W.EachIs (fun u (b : V × PyData) => RelV b.1 u) us bs) : Vals (bs.map (·.1)) us := by
  induction h with
  | nil => exact .nil
  | cons r _ ih => exact .cons r ih
theorem cr_sortDt {X : Cx} (hu : X.A.units + 64 < cLine) : CallR X (.builtin "sorted") (rSortDt X.K) := by
  intro pins s σ H vs us Q I r got
  obtain ⟨a, xs, ps, ex, hs, hd, ok, q⟩ := got
  subst ex
  rw [Vals.ref1 r]
  obtain ⟨its, rv, hl, hz⟩ := I.list hs
  obtain ⟨as, rd⟩ := Dp.readsAll I ps xs its hd rv
  obtain ⟨e1, e2⟩ := each_zip rv rd
  have len := dpAll_len hd
  unfold sortOk at ok
  simp only [Bool.and_eq_true, decide_eq_true_eq] at ok
  have mp : (xs.zip ps).map (·.2) = ps := by rw [List.map_snd_zip]; omega
  refine PySem.W.sorted_data (enc := fun b : V × PyData => b.2) hl.isList e1 e2 (by rw [mp]; exact akin_of ok.1.2) (by rw [mp]; exact sortable_of ok.1.1.1) ?_ (fun b hb => ?_) fun out h1 h2 => ?_
  · rw [List.length_zip, len, Nat.min_self]
    exact Nat.le_trans ok.2 (by rw [sizeLine_eq]; decide)
  · have hm : b.2 ∈ ps := by rw [← mp]; exact List.mem_map_of_mem hb
    have := of_decide_eq_true (List.all_eq_true.mp ok.1.1.2 _ hm)
    omega
  · have em : (xs.zip ps).mergeSort (PySem.W.dataLe false fun b => b.2) = srtVP (xs.zip ps) := by
      rw [PySem.W.dataLe_eq]
      exact merge_psort (ltTk_swo fun b : V × PyData => PySem.W.keyToks b.2) _
    rw [em] at h2
    obtain ⟨e, he⟩ := PyProof.Rows.sortedAll_at s.heap its out.toArray
    refine ⟨.ref (s.heap.objs.size + 1), upd H (s.heap.objs.size + 1) (.lst ((srtVP (xs.zip ps)).map (·.1))), I.laid (t' := s.toks) (fun b o hb => PyProof.Rows.sortedAll_old hb) (Nat.le_succ _) ⟨?_, out, e, each_vals h2, he⟩, rfl, q _ (I.hok.fresh (Nat.le_succ _))⟩
    rw [(each_vals h2).length, h1, List.length_zip, len, Nat.min_self]
    exact Nat.le_trans ok.2 (by rw [sizeLine_eq]; decide)
def srtDT (ds : List D) (ps : List PyData) : List D := (psort (fun (a b : D × Tk) => ltTk a.2 b.2) (ds.zip (ps.map PySem.W.keyToks))).map (·.1)
def fSortDt : List D → Option O
  | [.lst ds] => (toPys ds).bind fun ps => if sortOk ps = true then some (.lst (srtDT ds ps)) else none
  | _ => none
section
variable {G : Cn} {F H : Hp}
theorem zip_rel : ∀ {vs : List V} {ds : List D} {ps : List PyData}, Reps G F vs ds → vs.length = ps.length → Paired (fun (a : V × PyData) (b : D × Tk) => Rep G F a.1 b.1 ∧ PySem.W.keyToks a.2 = b.2) (vs.zip ps) (ds.zip (ps.map PySem.W.keyToks))
  | vs, [], ps, r, l => by
    rw [r.of_nil]
    exact .nil
  | vs, d :: ds, ps, r, l => by
    obtain ⟨v, w, rfl, r1, r2⟩ := r.of_cons
    match ps, l with
    | p :: ps, l => exact .cons ⟨r1, rfl⟩ (zip_rel r2 (by simpa using l))
theorem rel_reps : ∀ {l : List (V × PyData)} {m : List (D × Tk)}, Paired (fun (a : V × PyData) (b : D × Tk) => Rep G F a.1 b.1 ∧ PySem.W.keyToks a.2 = b.2) l m → Reps G F (l.map (·.1)) (m.map (·.1))
  | [], [], _ => .nil
  | _ :: l, _ :: m, h => by
    cases h with
    | cons q t => exact .cons q.1 (rel_reps (l := l) (m := m) t)
  | [], _ :: _, h => by cases h
  | _ :: _, [], h => by cases h
theorem cs_sortDt : CSem G (rSortDt G.K) fSortDt := fun {E F H σ ρ α Q vs ds} S hv h => by
  unfold fSortDt at h
  split at h
  · rename_i ds0
    obtain ⟨v, rfl, hx⟩ := hv.one
    obtain ⟨a, ws, rfl, h1, h2⟩ := hx.l S.ex
    cases q : toPys ds0 with
    | none => rw [q] at h; exact h.elim
    | some ps =>
      rw [q] at h
      dsimp only [Option.bind] at h
      split at h
      · rename_i ok
        have dp := toPys_dp S.ex ds0 h2 q
        refine ⟨a, ws, ps, rfl, SqL.of h1, dp, ok, fun p hp => Post.newL h S hp ?_⟩
        exact rel_reps (psort_rel (fun a b a' b' h1 h2 => by rw [h1.2, h2.2]) (zip_rel h2 (dpAll_len dp)))
      · exact h.elim
  · exact h.elim
end
abbrev rSortE (K : PySem.W.Frag) : List V → Hp → VK → Prop := fun xs H Q => rSorts K xs H Q ∨ rSortDt K xs H Q
theorem call_sortE {X : Cx} (hu : X.A.units + 64 < cLine) : CallR X (.builtin "sorted") (rSortE X.K) := CallR.orC call_sorts (cr_sortDt hu)
def fSortE : List D → Option O := fOr1 fSorts fSortDt
theorem cs_sortE {G : Cn} : CSem G (rSortE G.K) fSortE := cs_or cs_sorts cs_sortDt
end VL

namespace VL
open PySem PySem.Spec
open PyProof.Rows L2
open Evl (Ex sz_of)
open PySem.W (maxD minD dataLt AlikeAll max_list_data min_list_data max_tuple_data min_tuple_data max_list_default min_list_default max_tuple_default min_tuple_default)
open PySem.SeqAt (readsAll_map_plain readOf_plain readOf)

/-! ### max, min of a list or a tuple of data that are alike -/
mutual
def pyD : PyData → D
  | .none => .non
  | .bool b => .bl b
  | .int i => .int i
  | .str x => .str x
  | .tuple xs => .tup (pyDs xs)
  | .list xs => .lst (pyDs xs)
  | .dict _ => .non
def pyDs : List PyData → List D
  | [] => []
  | x :: r => pyD x :: pyDs r
end
mutual
/-- no script, no empty default within -/
def nemD : D → Bool
  | .tup ds => nemDs ds
  | .lst ds => nemDs ds
  | .scr _ => false
  | .emp => false
  | _ => true
def nemDs : List D → Bool
  | [] => true
  | d :: r => nemD d && nemDs r
end
mutual
theorem pyD_toPy : ∀ (d : D) {p : PyData}, toPy d = some p → nemD d = true → pyD p = d ∧ p.plain = true
  | .non, p, h, _ => by unfold toPy at h; cases h; exact ⟨rfl, rfl⟩
  | .bl b, p, h, _ => by unfold toPy at h; cases h; exact ⟨rfl, rfl⟩
  | .int b, p, h, _ => by unfold toPy at h; cases h; exact ⟨rfl, rfl⟩
  | .str b, p, h, _ => by unfold toPy at h; cases h; exact ⟨rfl, rfl⟩
  | .tup ds, p, h, n => by
    unfold toPy at h
    obtain ⟨ps, e, rfl⟩ := Option.map_eq_some_iff.mp h
    unfold nemD at n
    obtain ⟨h1, h2⟩ := pyDs_toPys ds e n
    unfold pyD
    rw [h1]
    exact ⟨rfl, by unfold PyData.plain; exact h2⟩
  | .lst ds, p, h, n => by
    unfold toPy at h
    obtain ⟨ps, e, rfl⟩ := Option.map_eq_some_iff.mp h
    unfold nemD at n
    obtain ⟨h1, h2⟩ := pyDs_toPys ds e n
    unfold pyD
    rw [h1]
    exact ⟨rfl, by unfold PyData.plain; exact h2⟩
  | .scr _, _, _, n => by unfold nemD at n; cases n
  | .emp, _, _, n => by unfold nemD at n; cases n
  | .dic _, _, h, _ => by unfold toPy at h; cases h
  | .ins _ _, _, h, _ => by unfold toPy at h; cases h
  | .dcn _, _, h, _ => by unfold toPy at h; cases h
  | .cls _, _, h, _ => by unfold toPy at h; cases h
theorem pyDs_toPys : ∀ (ds : List D) {ps : List PyData}, toPys ds = some ps → nemDs ds = true → pyDs ps = ds ∧ PyData.plainAll ps = true
  | [], ps, h, _ => by unfold toPys at h; cases h; exact ⟨rfl, rfl⟩
  | d :: ds, ps, h, n => by
    unfold toPys at h
    obtain ⟨q, e1, e2⟩ := Option.bind_eq_some_iff.mp h
    obtain ⟨qs, e3, rfl⟩ := Option.map_eq_some_iff.mp e2
    unfold nemDs at n
    rw [Bool.and_eq_true] at n
    obtain ⟨h1, h2⟩ := pyD_toPy d e1 n.1
    obtain ⟨h3, h4⟩ := pyDs_toPys ds e3 n.2
    unfold pyDs
    rw [h1, h3]
    exact ⟨rfl, by unfold PyData.plainAll; rw [h2, h4]; rfl⟩
end
theorem toPys_get : ∀ {ds : List D} {ps : List PyData} {i : Nat} {p : PyData}, toPys ds = some ps → ps[i]? = some p → ∃ d, ds[i]? = some d ∧ toPy d = some p
  | [], ps, i, p, h, e => by unfold toPys at h; cases h; simp at e
  | d :: ds, ps, i, p, h, e => by
    unfold toPys at h
    obtain ⟨q, e1, e2⟩ := Option.bind_eq_some_iff.mp h
    obtain ⟨qs, e3, rfl⟩ := Option.map_eq_some_iff.mp e2
    cases i with
    | zero =>
      have : q = p := by simpa using e
      subst this
      exact ⟨d, rfl, e1⟩
    | succ i => exact toPys_get (i := i) e3 (by simpa using e)
theorem nemDs_get : ∀ {ds : List D} {i : Nat} {d : D}, nemDs ds = true → ds[i]? = some d → nemD d = true
  | [], i, d, _, e => by simp at e
  | x :: ds, i, d, h, e => by
    unfold nemDs at h
    rw [Bool.and_eq_true] at h
    cases i with
    | zero =>
      have : x = d := by simpa using e
      subst this
      exact h.1
    | succ i => exact nemDs_get (i := i) h.2 (by simpa using e)
theorem plainAll_get : ∀ {ps : List PyData} {i : Nat} {p : PyData}, PyData.plainAll ps = true → ps[i]? = some p → p.plain = true
  | [], i, p, _, e => by simp at e
  | x :: ds, i, d, h, e => by
    unfold PyData.plainAll at h
    rw [Bool.and_eq_true] at h
    cases i with
    | zero =>
      have : x = d := by simpa using e
      subst this
      exact h.1
    | succ i => exact plainAll_get (i := i) h.2 (by simpa using e)
def someD : PyData → Bool
  | .none => false
  | _ => true
def mmOk (ps : List PyData) : Bool := (akin ps && ps.all someD) && decide (PyData.depthAll ps ≤ 40) && PyData.plainAll ps
def bestD (mx : Bool) (x : PyData) (xs : List PyData) : PyData := if mx = true then maxD x xs else minD x xs
/-- max, min: any item that is the best one -/
def rBest (K : PySem.W.Frag) (mx : Bool) : List V → Hp → VK → Prop := fun vs H Q => ∃ (a : Addr) (xs : List V) (p : PyData) (ps : List PyData), vs = [.ref a] ∧ (SqL K H a xs ∨ SqT K H a xs) ∧ DpAll K H xs (p :: ps) ∧ mmOk (p :: ps) = true ∧
  ∀ (i : Nat) x, xs[i]? = some x → (p :: ps)[i]? = some (bestD mx p ps) → Q x H
theorem best_at {X : Cx} {pins : List (Addr × Obj)} {σ : L2.St} {H : Hp} {s : Shared} {xs : List V} {ps : List PyData} {its : List Value} {as : List Addr} {b : PyData} {v : Value} {i : Nat} {h' : Heap} {tk : Nat} {bs : List Addr} {Q : VK}
    (I : Inv X pins σ H s) (rv : Vals xs its) (rd : ReadsAll s.heap its ps as) (pl : PyData.plainAll ps = true) (hi : its[i]? = some v) (hr : Reads h' v b bs) (kp : ∀ b o, s.heap.get? b = some o → h'.get? b = some o)
    (q : ∀ (i : Nat) x, xs[i]? = some x → ps[i]? = some b → Q x H) (hb : b.plain = true) : EP X pins σ Q v { s with heap := h', toks := tk } := by
  have hm := readsAll_map_plain ps its as pl rd
  have e1 : ps[i]? = some (readOf s.heap v) := by rw [← hm, List.getElem?_map, hi]; rfl
  have lx : ∃ x, xs[i]? = some x ∧ RelV x v := by
    obtain ⟨x, h1, h2⟩ := pair_at rv hi
    exact ⟨x, h1, h2⟩
  obtain ⟨x, hx, rx⟩ := lx
  have e2 : readOf s.heap v = b := by
    have hp := plainAll_get pl e1
    have : ∃ cs, Reads s.heap v (readOf s.heap v) cs := by
      have gen : ∀ {us : List Value} {qs : List PyData} {cs : List Addr} {j : Nat} {u : Value} {r : PyData}, ReadsAll s.heap us qs cs → us[j]? = some u → qs[j]? = some r → ∃ ds, Reads s.heap u r ds := by
        intro us
        induction us with
        | nil => intro qs cs j u r _ h; simp at h
        | cons y ys ih =>
          intro qs cs j u r hd h1 h2
          cases hd with
          | cons d1 d2 =>
            cases j with
            | zero =>
              have e1 : y = u := by simpa using h1
              subst e1
              have e2 := Option.some.inj (by simpa using h2)
              subst e2
              exact ⟨_, d1⟩
            | succ j => exact ih d2 (by simpa using h1) (by simpa using h2)
      exact gen rd hi e1
    obtain ⟨cs, r⟩ := this
    have r2 := PyProof.Rows.Reads.keeps kp r
    have z1 := readOf_plain hp r2
    have z2 := readOf_plain hb hr
    exact z1.symm.trans z2
  rw [e2] at e1
  exact ⟨x, H, I.kept (t' := tk) kp, rx, q i x hx e1⟩
theorem best_plain {p : PyData} : ∀ {ps : List PyData} {mx : Bool}, p.plain = true → PyData.plainAll ps = true → (bestD mx p ps).plain = true := by
  intro ps mx hp h
  have gen : ∀ (f : PyData → PyData → Bool) (ps : List PyData) (p : PyData), p.plain = true → PyData.plainAll ps = true → (ps.foldl (fun a y => if f y a then y else a) p).plain = true := by
    intro f ps
    induction ps with
    | nil => intro p hp _; exact hp
    | cons x r ih =>
      intro p hp h
      unfold PyData.plainAll at h
      rw [Bool.and_eq_true] at h
      rw [List.foldl_cons]
      split
      · exact ih _ h.1 h.2
      · exact ih _ hp h.2
  cases mx with
  | true => exact gen (fun y a => dataLt a y) ps p hp h
  | false => exact gen (fun y a => dataLt y a) ps p hp h
theorem akinAll {ps : List PyData} (h : akin ps = true ∧ ps.all someD = true) : AlikeAll ps := ⟨akin_of h.1, fun x hx => by
  rintro rfl
  cases List.all_eq_true.mp h.2 _ hx⟩
theorem cr_best {X : Cx} {mx : Bool} (hc : X.calm = true) (hu : X.A.units + 64 < cLine) : CallR X (.builtin (if mx = true then "max" else "min")) (rBest X.K mx) := by
  intro pins s σ H vs us Q I r got
  obtain ⟨a, xs, p, ps, ex, hs, hd, ok, q⟩ := got
  subst ex
  rw [Vals.ref1 r]
  unfold mmOk at ok
  simp only [Bool.and_eq_true, decide_eq_true_eq] at ok
  obtain ⟨⟨ok1, ok2⟩, ok3⟩ := ok
  have pb : (bestD mx p ps).plain = true := by
    have := ok3
    unfold PyData.plainAll at this
    rw [Bool.and_eq_true] at this
    exact best_plain this.1 this.2
  rcases hs with hs | hs
  · obtain ⟨its, rv, hl, hz⟩ := I.list hs
    obtain ⟨as, rd⟩ := Dp.readsAll I (p :: ps) xs its hd rv
    cases mx with
    | true => exact max_list_data (I.ok.hd hc) hl.isList (by simpa using rd) (akinAll ok1) (by omega) fun i v h' tk bs hi hr kp => best_at I rv rd ok3 (by simpa using hi) hr kp q pb
    | false => exact min_list_data (I.ok.hd hc) hl.isList (by simpa using rd) (akinAll ok1) (by omega) fun i v h' tk bs hi hr kp => best_at I rv rd ok3 (by simpa using hi) hr kp q pb
  · obtain ⟨its, rv, hl, hz⟩ := I.tuple hs
    obtain ⟨as, rd⟩ := Dp.readsAll I (p :: ps) xs its hd rv
    cases mx with
    | true => exact max_tuple_data (I.ok.hd hc) hl (by simpa using rd) (akinAll ok1) (by omega) fun i v h' tk bs hi hr kp => best_at I rv rd ok3 (by simpa using hi) hr kp q pb
    | false => exact min_tuple_data (I.ok.hd hc) hl (by simpa using rd) (akinAll ok1) (by omega) fun i v h' tk bs hi hr kp => best_at I rv rd ok3 (by simpa using hi) hr kp q pb
/-- with a default -/
def rBestD (K : PySem.W.Frag) (mx : Bool) : List V → List V → Hp → VK → Prop := fun vs zs H Q => ∃ (a : Addr) (xs : List V) (ps : List PyData) (z : V), vs = [.ref a] ∧ zs = [z] ∧ (SqL K H a xs ∨ SqT K H a xs) ∧ DpAll K H xs ps ∧ mmOk ps = true ∧
  (ps = [] → Q z H) ∧ ∀ p qs, ps = p :: qs → ∀ (i : Nat) x, xs[i]? = some x → ps[i]? = some (bestD mx p qs) → Q x H
theorem cr_bestD {X : Cx} {mx : Bool} (hc : X.calm = true) (hu : X.A.units + 64 < cLine) : CallRK X (.builtin (if mx = true then "max" else "min")) [Str.ofString "default"] (rBestD X.K mx) := by
  intro pins s σ H vs zs us ws Q I r r2 got
  obtain ⟨a, xs, ps, z, ex, ez, hs, hd, ok, q0, q⟩ := got
  subst ex ez
  rw [Vals.ref1 r]
  obtain ⟨w, rfl, rw'⟩ := vals1 r2
  unfold mmOk at ok
  simp only [Bool.and_eq_true, decide_eq_true_eq] at ok
  obtain ⟨⟨ok1, ok2⟩, ok3⟩ := ok
  have pb : ∀ p qs, ps = p :: qs → (bestD mx p qs).plain = true := fun p qs e => by
    rw [e] at ok3
    unfold PyData.plainAll at ok3
    rw [Bool.and_eq_true] at ok3
    exact best_plain ok3.1 ok3.2
  have dflt : ps = [] → ∀ h' tk, (∀ b o, s.heap.get? b = some o → h'.get? b = some o) → EP X pins σ Q w { s with heap := h', toks := tk } := fun e h' tk kp => ⟨z, H, I.kept (t' := tk) kp, rw', q0 e⟩
  rcases hs with hs | hs
  · obtain ⟨its, rv, hl, hz⟩ := I.list hs
    obtain ⟨as, rd⟩ := Dp.readsAll I ps xs its hd rv
    cases mx with
    | true => exact max_list_default (I.ok.hd hc) hl.isList (by simpa using rd) (akinAll ok1) (by omega) dflt fun y ys i v h' tk bs e hi hr kp => best_at I rv rd ok3 (by simpa using hi) hr kp (q y ys e) (pb y ys e)
    | false => exact min_list_default (I.ok.hd hc) hl.isList (by simpa using rd) (akinAll ok1) (by omega) dflt fun y ys i v h' tk bs e hi hr kp => best_at I rv rd ok3 (by simpa using hi) hr kp (q y ys e) (pb y ys e)
  · obtain ⟨its, rv, hl, hz⟩ := I.tuple hs
    obtain ⟨as, rd⟩ := Dp.readsAll I ps xs its hd rv
    cases mx with
    | true => exact max_tuple_default (I.ok.hd hc) hl (by simpa using rd) (akinAll ok1) (by omega) dflt fun y ys i v h' tk bs e hi hr kp => best_at I rv rd ok3 (by simpa using hi) hr kp (q y ys e) (pb y ys e)
    | false => exact min_tuple_default (I.ok.hd hc) hl (by simpa using rd) (akinAll ok1) (by omega) dflt fun y ys i v h' tk bs e hi hr kp => best_at I rv rd ok3 (by simpa using hi) hr kp (q y ys e) (pb y ys e)
def seqOf : D → Option (List D)
  | .tup ds => some ds
  | .lst ds => some ds
  | _ => none
def fBest (mx : Bool) : List D → Option O
  | [d] => (seqOf d).bind fun ds => (toPys ds).bind fun ps => match ps with
    | p :: qs => if mmOk (p :: qs) && nemDs ds then some (.val (pyD (bestD mx p qs))) else none
    | [] => none
  | _ => none
def fBestD (mx : Bool) : List D → List D → Option O
  | [d], [z] => (seqOf d).bind fun ds => (toPys ds).bind fun ps => if mmOk ps && nemDs ds then (match ps with
    | p :: qs => some (.val (pyD (bestD mx p qs)))
    | [] => some (.val z)) else none
  | _, _ => none
/-- a call with keywords -/
def mCKw (f : List D → List D → Option O) (ms ks : MA) : M := fun ρ => bnd (ms ρ) fun xs ρ1 => bnd (ks ρ1) fun zs ρ2 => match dsOnly xs, dsOnly zs with
  | some ds, some es => (f ds es).map fun o => (.ok o, ρ2)
  | _, _ => none
section
variable {G : Cn} {E : XK} {F H : Hp} {σ : L2.St} {ρ : Rho} {α : Al}
theorem seq_x {v : V} {d : D} {ds : List D} (h : RepX G F H v d) (e : Lx F H) (q : seqOf d = some ds) : ∃ a vs, v = .ref a ∧ (SqL G.K H a vs ∨ SqT G.K H a vs) ∧ Reps G F vs ds := by
  cases d with
  | tup xs =>
    cases q
    obtain ⟨a, vs, rfl, h1, h2, h3⟩ := h.t e
    exact ⟨a, vs, rfl, .inr (SqT.of h2), h3⟩
  | lst xs =>
    cases q
    obtain ⟨a, vs, rfl, h1, h2⟩ := h.l e
    exact ⟨a, vs, rfl, .inl (SqL.of h1), h2⟩
  | _ => cases q
theorem cs_best {mx : Bool} : CSem G (rBest G.K mx) (fBest mx) := fun {E F H σ ρ α Q vs ds} S hv h => by
  unfold fBest at h
  split at h
  · rename_i d
    obtain ⟨v, rfl, hx⟩ := hv.one
    cases e1 : seqOf d with
    | none => rw [e1] at h; exact h.elim
    | some ds =>
      rw [e1] at h
      cases e2 : toPys ds with
      | none => simp only [Option.bind, e2] at h; exact h.elim
      | some ps =>
        simp only [Option.bind, e2] at h
        match ps, e2, h with
        | [], _, h => exact h.elim
        | p :: qs, e2, h =>
          dsimp only at h
          split at h
          · rename_i ok
            rw [Bool.and_eq_true] at ok
            obtain ⟨a, vs, rfl, hs, hr⟩ := seq_x hx S.ex e1
            refine ⟨a, vs, p, qs, rfl, hs, toPys_dp S.ex ds hr e2, ok.1, fun i x hi hb => ?_⟩
            obtain ⟨d', h1, h2⟩ := toPys_get e2 hb
            obtain ⟨y, h3, h4⟩ := hr.get h1
            rw [hi] at h3
            cases h3
            rw [(pyD_toPy d' h2 (nemDs_get ok.2 h1)).1] at h
            exact Post.val h S h4
          · exact h.elim
  · exact h.elim
theorem sem_bestD {mx : Bool} {t tk : TA} {ms ks : MA} (ha : SemA G E t ms) (hk : SemA G E tk ks) : Sem G E (tCKw (rBestD G.K mx) t tk) (mCKw (fBestD mx) ms ks) := ⟨fun {F H σ ρ α Q} S h =>
  ha.run S (PostA.to h fun xs ρ1 vs F1 H1 α1 S1 r1 T1 N1 h1 => hk.run S1 (PostA.to (Post.shift T1 N1 h1) fun zs ρ2 ws F2 H2 α2 S2 r2 T2 N2 h2 => by
    have h2 := Post.shift T2 N2 h2
    split at h2
    · rename_i ds es q1 q2
      have d1 := dsOnly_r (r1.mono T2.exF) q1
      have d2 := dsOnly_r r2 q2
      unfold fBestD at h2
      split at h2
      · rename_i d z
        obtain ⟨v, r, rfl, rd, rn⟩ := d1.of_cons
        obtain rfl := rn.of_nil
        obtain ⟨w, r, rfl, rz, rn⟩ := d2.of_cons
        obtain rfl := rn.of_nil
        cases e1 : seqOf d with
        | none => rw [e1] at h2; exact h2.elim
        | some ds =>
          rw [e1] at h2
          cases e2 : toPys ds with
          | none => simp only [Option.bind, e2] at h2; exact h2.elim
          | some ps =>
            simp only [Option.bind, e2] at h2
            split at h2
            · rename_i ok
              rw [Bool.and_eq_true] at ok
              obtain ⟨a, vs, rfl, hs, hr⟩ := seq_x (H := H2) (.inl rd) S2.ex e1
              refine ⟨a, vs, ps, w, rfl, rfl, hs, toPys_dp S2.ex ds hr e2, ok.1, fun e0 => ?_, fun p qs ep i x hi hb => ?_⟩
              · subst e0
                exact Post.val h2 S2 rz
              · subst ep
                obtain ⟨d', h3, h4⟩ := toPys_get e2 hb
                obtain ⟨y, h5, h6⟩ := hr.get h3
                rw [hi] at h5
                cases h5
                dsimp only at h2
                rw [(pyD_toPy d' h4 (nemDs_get ok.2 h3)).1] at h2
                exact Post.val h2 S2 h6
            · exact h2.elim
      · exact h2.elim
    · exact h2.elim))⟩
/-- sum of a list of ints -/
def fSum : List D → Option O
  | [.lst ds] => (intsD ds).map fun ns => .val (.int ns.sum)
  | _ => none
theorem cs_sum : CSem G (rSum G.K) fSum := fun {E F H σ ρ α Q vs ds} S hv h => by
  unfold fSum at h
  split at h
  · rename_i ds0
    obtain ⟨v, rfl, hx⟩ := hv.one
    obtain ⟨a, ws, rfl, h1, h2⟩ := hx.l S.ex
    cases q : intsD ds0 with
    | none => rw [q] at h; exact h.elim
    | some ns =>
      rw [q] at h
      have e := intsD_reps h2 q
      subst e
      exact ⟨a, ns, rfl, SqL.of h1, Post.val h S Rep.ofInt⟩
  · exact h.elim
end
end VL

namespace VL
open PySem PySem.Spec
open PyProof.Rows L2
open Evl (Ex sz_of)

theorem hu9_of {k : Nat} {A : Around} (r : Room k A) : A.units + 9 < cLine := by
  have := r.un
  omega
/-! ### a def that calls itself: so many turns deep, and no deeper -/
theorem fnok_none {P : Program} {w : World} {K : PySem.W.Frag} {mg : Str → Option Value} {base : Heap} {cl : Nat → Addr} {CX : CXT} {k np : Nat} {f : Addr} {fd : FuncData} {ps : List Str} (h : ps.length = np) : FnOk P w K mg base CX k f fd ps (spF ⟨K, cl, w⟩ (fun _ => none) np) where
  len := fun vs H Q E q => q.1.trans h.symm
  run := fun A outer s H args us vs Q E hr he hb hv hs => by
    obtain ⟨_, F, os, α, S, q⟩ := hs
    exact q.elim
/-! ### xs.count(k), ints -/
def mCnt (a b : M) : M := fun ρ => bnd (a ρ) fun o ρ1 => match o.frz with
  | .lst ds => bnd (b ρ1) fun o' ρ2 => (match intsD ds, o'.frz with
    | some ns, .int k => some (.ok (.val (.int (ns.count k : Nat))), ρ2)
    | _, _ => none)
  | _ => none
section
variable {G : Cn} {E : XK} {ta tb : TE} {ma mb : M}
theorem sem_cnt (ha : Sem G E ta ma) (hb : Sem G E tb mb) : Sem G E (tBM G.K "list" (rCntI G.K) ta (tCons tb tNil)) (mCnt ma mb) := ⟨fun {F H σ ρ α Q} S h => by
  unfold mCnt at h
  refine ha.run S (Post.to h fun o ρ1 v F1 H1 α1 S1 r1 T1 N1 h1 => ?_)
  split at h1
  · rename_i ds e0
    rw [e0] at r1
    unfold Rep at r1
    obtain ⟨a, vs, ev, h2, h3⟩ := r1
    subst ev
    refine ⟨.inl ⟨rfl, vs, SqL.of (S1.ex.x h2)⟩, hb.run S1 (Post.to (Post.shift T1 N1 h1) fun o2 ρ2 v2 F2 H2 α2 S2 r2 T2 N2 h4 => ?_)⟩
    split at h4
    · rename_i ns k e1 e2
      rw [e2] at r2
      obtain rfl := r2.toInt
      obtain rfl := intsD_eq e1
      obtain rfl := reps_int h3
      exact ⟨a, ns, k, rfl, rfl, SqL.of (S2.ex.x (T2.exF _ _ h2)), Post.val (Post.shift T2 N2 h4) S2 Rep.ofInt⟩
    · exact h4.elim
  · exact h1.elim⟩
end
end VL

open PySem PySem.Spec
open PyProof.Rows L2
namespace VG
open VL
def fuel : Nat := 100
def top (i : Nat) : Stmt := PySem.Challenge.pw_registerrooms_k44_whole_counting.main.body.getD i (.Pass ⟨0, 0, 0, 0⟩)
abbrev s_is_whole : Stmt := top 8
abbrev s_is_integer : Stmt := top 9
abbrev s_are_integers : Stmt := top 10
abbrev s_is_ascending : Stmt := top 11
abbrev s_check_limit : Stmt := top 12
abbrev s_Rivals___getitem__ : Stmt := inClass (top 15) 6
abbrev s_check_rivals : Stmt := top 16
abbrev s_is_pair : Stmt := top 18
abbrev s_are_pairs : Stmt := top 19
abbrev s_all_partings : Stmt := top 25
abbrev s_choices : Stmt := top 26
abbrev s_law_cell_at : Stmt := top 28
abbrev s_law_draw : Stmt := top 29
abbrev s_law_number : Stmt := top 30
abbrev s_law_next : Stmt := top 31
abbrev s_law_every : Stmt := top 32
abbrev s_law_rivals : Stmt := top 33
abbrev s_law_are : Stmt := top 34
abbrev s_law_tries : Stmt := top 35
abbrev s_law_parts : Stmt := top 36
abbrev s_law_drawn_in : Stmt := top 37
abbrev s_law_row : Stmt := top 38
abbrev s_Rivals___init__ : Stmt := inClass (top 15) 0
abbrev s_partings : Stmt := top 22
abbrev s_polynomial : Stmt := top 23
abbrev s_ways : Stmt := top 24
abbrev s_law : Stmt := top 39
def is_Rivals : List (Nat × Bool) := [(5, true)]
structure Txt (P : Program) (w : World) (K : PySem.W.Frag) (mg : Str → Option Value) (fn cl : Nat → Addr) : Prop where
  d_is_whole : DefAt K "is_whole" "is_whole" s_is_whole (fn 2) ["thing"]
  d_is_integer : DefAt K "is_integer" "is_integer" s_is_integer (fn 3) ["thing", "low", "top"]
  d_are_integers : DefAt K "are_integers" "are_integers" s_are_integers (fn 4) ["things", "low", "top"]
  d_is_ascending : DefAt K "is_ascending" "is_ascending" s_is_ascending (fn 5) ["things"]
  d_check_limit : DefAt K "check_limit" "check_limit" s_check_limit (fn 6) ["limit", "low", "most"]
  d_Rivals___getitem__ : DefAt K "__getitem__" "Rivals.__getitem__" s_Rivals___getitem__ (fn 13) ["self", "one"]
  d_check_rivals : DefAt K "check_rivals" "check_rivals" s_check_rivals (fn 17) ["rivals"]
  d_is_pair : DefAt K "is_pair" "is_pair" s_is_pair (fn 19) ["many", "pair"]
  d_are_pairs : DefAt K "are_pairs" "are_pairs" s_are_pairs (fn 20) ["many", "pairs"]
  d_all_partings : DefAt K "all_partings" "all_partings" s_all_partings (fn 24) ["rivals"]
  d_choices : DefAt K "choices" "choices" s_choices (fn 25) ["limit", "sets"]
  d_law_cell_at : DefAt K "_law_cell_at" "_law_cell_at" s_law_cell_at (fn 26) ["script", "k"]
  d_law_draw : DefAt K "_law_draw" "_law_draw" s_law_draw (fn 27) ["cell", "k", "bound"]
  d_law_number : DefAt K "_law_number" "_law_number" s_law_number (fn 28) ["cell", "k", "bound"]
  d_law_next : DefAt K "_law_next" "_law_next" s_law_next (fn 29) ["draw", "bound"]
  d_law_every : DefAt K "_law_every" "_law_every" s_law_every (fn 30) ["many"]
  d_law_rivals : DefAt K "_law_rivals" "_law_rivals" s_law_rivals (fn 31) ["draw", "most"]
  d_law_are : DefAt K "_law_are" "_law_are" s_law_are (fn 32) ["plain", "one", "other"]
  d_law_tries : DefAt K "_law_tries" "_law_tries" s_law_tries (fn 33) ["plain", "limit", "rooms"]
  d_law_parts : DefAt K "_law_parts" "_law_parts" s_law_parts (fn 34) ["plain", "sets", "at"]
  d_law_drawn_in : DefAt K "_law_drawn_in" "_law_drawn_in" s_law_drawn_in (fn 35) ["many", "pairs", "one", "other"]
  d_law_row : DefAt K "_law_row" "_law_row" s_law_row (fn 36) ["many", "pairs"]
  d_partings : DefAt K "partings" "partings" s_partings (fn 21) ["rivals"]
  d_polynomial : DefAt K "polynomial" "polynomial" s_polynomial (fn 22) ["rivals"]
  d_ways : DefAt K "ways" "ways" s_ways (fn 23) ["rivals", "limit"]
  d_law : DefAt K "law" "law" s_law (fn 37) ["script"]
  g_law_are : mg "_law_are" = some (.ref (fn 32))
  g_law_cell_at : mg "_law_cell_at" = some (.ref (fn 26))
  g_law_draw : mg "_law_draw" = some (.ref (fn 27))
  g_law_drawn_in : mg "_law_drawn_in" = some (.ref (fn 35))
  g_law_every : mg "_law_every" = some (.ref (fn 30))
  g_law_next : mg "_law_next" = some (.ref (fn 29))
  g_law_number : mg "_law_number" = some (.ref (fn 28))
  g_law_parts : mg "_law_parts" = some (.ref (fn 34))
  g_law_rivals : mg "_law_rivals" = some (.ref (fn 31))
  g_law_row : mg "_law_row" = some (.ref (fn 36))
  g_law_tries : mg "_law_tries" = some (.ref (fn 33))
  g_all_partings : mg "all_partings" = some (.ref (fn 24))
  g_are_integers : mg "are_integers" = some (.ref (fn 4))
  g_are_pairs : mg "are_pairs" = some (.ref (fn 20))
  g_check_limit : mg "check_limit" = some (.ref (fn 6))
  g_check_rivals : mg "check_rivals" = some (.ref (fn 17))
  g_choices : mg "choices" = some (.ref (fn 25))
  g_is_ascending : mg "is_ascending" = some (.ref (fn 5))
  g_is_integer : mg "is_integer" = some (.ref (fn 3))
  g_is_pair : mg "is_pair" = some (.ref (fn 19))
  g_is_whole : mg "is_whole" = some (.ref (fn 2))
  g_partings : mg "partings" = some (.ref (fn 21))
  g_polynomial : mg "polynomial" = some (.ref (fn 22))
  g_ways : mg "ways" = some (.ref (fn 23))
  b_all : mg "all" = none
  b_any : mg "any" = none
  b_bool : mg "bool" = none
  b_enumerate : mg "enumerate" = none
  b_int : mg "int" = none
  b_isinstance : mg "isinstance" = none
  b_len : mg "len" = none
  b_list : mg "list" = none
  b_max : mg "max" = none
  b_min : mg "min" = none
  b_range : mg "range" = none
  b_sorted : mg "sorted" = none
  b_sum : mg "sum" = none
  b_tuple : mg "tuple" = none
  b_zip : mg "zip" = none
  k_MOST_RIVALS : ∃ u, mg "MOST_RIVALS" = some u ∧ RelV (.int (8)) u
  k_MOST_ROOMS : ∃ u, mg "MOST_ROOMS" = some u ∧ RelV (.int (20)) u
  c_Rivals : mg "Rivals" = some (.ref (cl 5))
  is_Rivals : IsOk ⟨K, cl, w⟩ (.ref (cl 5)) (ansC kitO is_Rivals)
  gt_Rivals : OwnGet K (cl 5) (fn 13)
  h_many : ∀ c ∈ ([5] : List Nat), L2.Cls K (cl c) ∧ L2.NoAttr K (cl c) "many"
  h_pairs : ∀ c ∈ ([5] : List Nat), L2.Cls K (cl c) ∧ L2.NoAttr K (cl c) "pairs"
  x_BadRivals : ∃ fI fd, VX.BadTxt P K mg (cl 3) fI fd ∧ (∀ (s : Shared) (a : Addr) (u : Value), K.In s.heap → BindsTo s fd ⟨[.ref a, u], []⟩ [("self", .ref a), ("part", u)]) ∧ mg "BadRivals" = some (.ref (cl 3))
  i_Rivals : ∃ fd, FunV K "__init__" "Rivals.__init__" s_Rivals___init__ (fn 7) fd ∧ L2.Mk K (cl 5) (fn 7) ∧ mg "Rivals" = some (.ref (cl 5)) ∧ (∃ g, L2.KBn K fd ["self", "many", "pairs"] 3 [] g (fun vs zs => vs ++ zs)) ∧ ∃ g, L2.KBn K fd ["self", "many", "pairs"] 3 [] g (fun vs _ => vs ++ [])
section
variable {P : Program} {w : World} {K : PySem.W.Frag} {mg : Str → Option Value} {base : Heap} {fn cl : Nat → Addr}
def m_is_whole : Fn := mFn0 1 1 (sRet (mAnd (mIs (ansT "int") (mVar 0)) (mNot (mIs (ansT "bool") (mVar 0)))))
theorem sc_is_whole : FnScope ["thing"] ["thing"] (defScope s_is_whole) := ⟨rfl, rfl, rfl, by decide +kernel, rfl, by decide +kernel, by decide +kernel⟩
theorem okF_is_whole (T : Txt P w K mg fn cl) {fd : FuncData} (F : L2.Fun K "is_whole" "is_whole" s_is_whole (fn 2) fd) : FnOk P w K mg base CX0 1 (fn 2) fd ["thing"] (spF ⟨K, cl, w⟩ m_is_whole 1) :=
  fn_ok0 F sc_is_whole rfl (by decide) fun cdv A outer s H E hr => by
    have sc := sc_is_whole
    exact ⟨_, (pss_one (ps_ret (pe_and (pe_callB call_isO (by rfl) T.b_isinstance (by decide +kernel) (pa_cons (pv 0) (pa_cons (pe_bltn (v := .ty "int") (by rfl) T.b_int (by decide +kernel) rfl) pa_nil))) (pe_one (pe_not (pe_callB call_isO (by rfl) T.b_isinstance (by decide +kernel) (pa_cons (pv 0) (pa_cons (pe_bltn (v := .ty "bool") (by rfl) T.b_bool (by decide +kernel) rfl) pa_nil)))))))),
      (semS_ret (sem_andV (sem_is (is_ty (by decide)) (.ty _) sem_var) (sem_notV (sem_is (is_ty (by decide)) (.ty _) sem_var))))⟩
theorem ok_is_whole (T : Txt P w K mg fn cl) : OkAt P w K mg base CX0 1 (fn 2) ["thing"] (spF ⟨K, cl, w⟩ m_is_whole 1) := by
  obtain ⟨fd, F, B⟩ := T.d_is_whole.fu
  exact ⟨fd, okF_is_whole T F, B, F.kp⟩
def m_is_integer : Fn := mFn0 3 3 (sRet (mAnd (mCall m_is_whole (aCons (mVar 0) aNil)) (mChain (fCmp fun i j => decide (i ≤ j)) (fOr (fCmp fun i j => decide (i < j)) fLtT) (mVar 1) (mVar 0) (mVar 2))))
theorem sc_is_integer : FnScope ["thing", "low", "top"] ["thing", "low", "top"] (defScope s_is_integer) := ⟨rfl, rfl, rfl, by decide +kernel, rfl, by decide +kernel, by decide +kernel⟩
theorem okF_is_integer (T : Txt P w K mg fn cl) {fd : FuncData} (F : L2.Fun K "is_integer" "is_integer" s_is_integer (fn 3) fd) : FnOk P w K mg base CX0 2 (fn 3) fd ["thing", "low", "top"] (spF ⟨K, cl, w⟩ m_is_integer 3) :=
  fn_ok0 F sc_is_integer rfl (by decide) fun cdv A outer s H E hr => by
    have sc := sc_is_integer
    have O_is_whole := ok_is_whole (P := P) (w := w) (base := base) T
    have hu1 := hu_of hr
    exact ⟨_, (pss_one (ps_ret (pe_and (pe_callO O_is_whole (hr.mono (by decide)) T.g_is_whole (pa_cons (pv 0) pa_nil)) (pe_one (pe_chain op_le (op_lt.or (op_ltT (Nat.lt_of_succ_lt hu1))) (pv 1) (pv 0) (pv 2)))))),
      (semS_ret (sem_andV (sem_call mFn0_len (semA_cons sem_var semA_nil)) (sem_chain os_cmp (os_or os_cmp os_ltT) sem_var sem_var sem_var)))⟩
theorem ok_is_integer (T : Txt P w K mg fn cl) : OkAt P w K mg base CX0 2 (fn 3) ["thing", "low", "top"] (spF ⟨K, cl, w⟩ m_is_integer 3) := by
  obtain ⟨fd, F, B⟩ := T.d_is_integer.fu
  exact ⟨fd, okF_is_integer T F, B, F.kp⟩
def m_are_integers : Fn := mFn0 3 4 (sRet (mAnd (mIs (ansT "tuple") (mVar 0)) (mCB fAll (aCons (mLc (iWalkA (mVar 0)) [3] (.nm 3) mYes (mCall m_is_integer (aCons (mVar 3) (aCons (mVar 1) (aCons (mVar 2) aNil))))) aNil))))
theorem sc_are_integers : FnScope ["things", "low", "top", "thing"] ["things", "low", "top"] (defScope s_are_integers) := ⟨rfl, rfl, rfl, by decide +kernel, rfl, by decide +kernel, by decide +kernel⟩
theorem okF_are_integers (T : Txt P w K mg fn cl) {fd : FuncData} (F : L2.Fun K "are_integers" "are_integers" s_are_integers (fn 4) fd) : FnOk P w K mg base CX0 3 (fn 4) fd ["things", "low", "top"] (spF ⟨K, cl, w⟩ m_are_integers 3) :=
  fn_ok0 F sc_are_integers rfl (by decide) fun cdv A outer s H E hr => by
    have sc := sc_are_integers
    have O_is_integer := ok_is_integer (P := P) (w := w) (base := base) T
    exact ⟨_, (pss_one (ps_ret (pe_and (pe_callB call_isO (by rfl) T.b_isinstance (by decide +kernel) (pa_cons (pv 0) (pa_cons (pe_bltn (v := .ty "tuple") (by rfl) T.b_tuple (by decide +kernel) rfl) pa_nil))) (pe_one (pe_callB (cr_all rfl) (by rfl) T.b_all (by decide +kernel) (pa_cons (pe_lc (own := [("thing", 3)]) rfl sc.nd (pi_walkL (pv 0)) (by show BlkOk ["things", "low", "top", "thing"] (defScope s_are_integers) _ _; exact ⟨rfl, by decide +kernel, by decide +kernel, by decide +kernel, by decide +kernel⟩) (fun _ _ _ _ _ => (pg_name (i := 3) sc.nd rfl (Or.inl rfl))) (fun _ _ _ _ _ => pts_nil) (fun _ _ _ _ _ => (pe_callO O_is_integer (hr.mono (by decide)) T.g_is_integer (pa_cons (pv 3) (pa_cons (pv 1) (pa_cons (pv 2) pa_nil)))))) pa_nil)))))),
      (semS_ret (sem_andV (sem_is (is_ty (by decide)) (.ty _) sem_var) (sem_cb cs_all (semA_cons (sem_lc (E1 := E0) (E2 := E0) (semI_walkL (E := E0) sem_var) g_name semT_yes (sem_call mFn0_len (semA_cons sem_var (semA_cons sem_var (semA_cons sem_var semA_nil)))) (by decide)) semA_nil))))⟩
theorem ok_are_integers (T : Txt P w K mg fn cl) : OkAt P w K mg base CX0 3 (fn 4) ["things", "low", "top"] (spF ⟨K, cl, w⟩ m_are_integers 3) := by
  obtain ⟨fd, F, B⟩ := T.d_are_integers.fu
  exact ⟨fd, okF_are_integers T F, B, F.kp⟩
def m_is_ascending : Fn := mFn0 1 3 (sRet (mCB fAll (aCons (mLc (iZip (aCons (mVar 0) (aCons (mSl (mVar 0) (oPart (mC (.int (1)))) oNone) aNil))) [1, 2] (.tu ((.nm 1) :: (.nm 2) :: [])) mYes (mOp2 (fOr (fCmp fun i j => decide (i < j)) fLtT) (mVar 1) (mVar 2))) aNil)))
theorem sc_is_ascending : FnScope ["things", "one", "other"] ["things"] (defScope s_is_ascending) := ⟨rfl, rfl, rfl, by decide +kernel, rfl, by decide +kernel, by decide +kernel⟩
theorem okF_is_ascending (T : Txt P w K mg fn cl) {fd : FuncData} (F : L2.Fun K "is_ascending" "is_ascending" s_is_ascending (fn 5) fd) : FnOk P w K mg base CX0 1 (fn 5) fd ["things"] (spF ⟨K, cl, w⟩ m_is_ascending 1) :=
  fn_ok0 F sc_is_ascending rfl (by decide) fun cdv A outer s H E hr => by
    have sc := sc_is_ascending
    have hu1 := hu_of hr
    exact ⟨_, (pss_one (ps_ret (pe_callB (cr_all rfl) (by rfl) T.b_all (by decide +kernel) (pa_cons (pe_lc (own := [("one", 1), ("other", 2)]) rfl sc.nd (pi_zipV (by rfl) T.b_zip (pa_cons (pv 0) (pa_cons (pe_slice sl_any (pv 0) (po_some pe_int) po_none) pa_nil))) (by show BlkOk ["things", "one", "other"] (defScope s_is_ascending) _ _; exact ⟨rfl, by decide +kernel, by decide +kernel, by decide +kernel, by decide +kernel⟩) (fun _ _ _ _ _ => (pg_tup (n := 2) rfl (pgs_cons (pg_name (i := 1) sc.nd rfl (Or.inl rfl)) (pgs_cons (pg_name (i := 2) sc.nd rfl (Or.inl rfl)) pgs_nil)))) (fun _ _ _ _ _ => pts_nil) (fun _ _ _ _ _ => (pe_cmpR (op_lt.or (op_ltT (Nat.lt_of_succ_lt hu1))) (pv 1) (pv 2) (nomark _)))) pa_nil)))),
      (semS_ret (sem_cb cs_all (semA_cons (sem_lc (E1 := E0) (E2 := E0) (semI_zip (E := E0) (semA_cons sem_var (semA_cons (sem_sl sem_var (semO_part sem_int) semO_none) semA_nil))) (g_tup (gs_cons g_name (gs_cons g_name gs_nil))) semT_yes (sem_op (os_or os_cmp os_ltT) sem_var sem_var) (by decide)) semA_nil)))⟩
theorem ok_is_ascending (T : Txt P w K mg fn cl) : OkAt P w K mg base CX0 1 (fn 5) ["things"] (spF ⟨K, cl, w⟩ m_is_ascending 1) := by
  obtain ⟨fd, F, B⟩ := T.d_is_ascending.fu
  exact ⟨fd, okF_is_ascending T F, B, F.kp⟩
def m_check_limit : Fn := mFn0 3 3 (sIf (mNot (mTru (mCall m_is_integer (aCons (mVar 0) (aCons (mVar 1) (aCons (mOp2 fAddA (mVar 2) (mC (.int (1)))) aNil)))))) sNever sNx)
theorem sc_check_limit : FnScope ["limit", "low", "most"] ["limit", "low", "most"] (defScope s_check_limit) := ⟨rfl, rfl, rfl, by decide +kernel, rfl, by decide +kernel, by decide +kernel⟩
theorem okF_check_limit (T : Txt P w K mg fn cl) {fd : FuncData} (F : L2.Fun K "check_limit" "check_limit" s_check_limit (fn 6) fd) : FnOk P w K mg base CX0 3 (fn 6) fd ["limit", "low", "most"] (spF ⟨K, cl, w⟩ m_check_limit 3) :=
  fn_ok0 F sc_check_limit rfl (by decide) fun cdv A outer s H E hr => by
    have sc := sc_check_limit
    have O_is_integer := ok_is_integer (P := P) (w := w) (base := base) T
    exact ⟨_, (pss_one (ps_if (pt_not (pt_truthW (pe_callO O_is_integer (hr.mono (by decide)) T.g_is_integer (pa_cons (pv 0) (pa_cons (pv 1) (pa_cons (pe_op op_addA (pv 2) pe_int) pa_nil)))) (fun _ => rfl))) (pss_one ps_never) pss_nil)),
      (semS_if (semT_not (semT_tru (sem_call mFn0_len (semA_cons sem_var (semA_cons sem_var (semA_cons (sem_op os_addA sem_var sem_int) semA_nil)))))) semS_never semS_nx)⟩
theorem ok_check_limit (T : Txt P w K mg fn cl) : OkAt P w K mg base CX0 3 (fn 6) ["limit", "low", "most"] (spF ⟨K, cl, w⟩ m_check_limit 3) := by
  obtain ⟨fd, F, B⟩ := T.d_check_limit.fu
  exact ⟨fd, okF_check_limit T F, B, F.kp⟩
def m_Rivals___getitem__ : Fn := mFn0 2 4 (sSeq (sIf (mNot (mTru (mCall m_is_integer (aCons (mVar 1) (aCons (mC (.int (0))) (aCons (mFld [5] "many" (mVar 0)) aNil)))))) sNever sNx) (sRet (mCB fSorts (aCons (mLc2 (iWalkA (mFld [5] "pairs" (mVar 0))) [2, 3] (.nm 2) (iWalkA (mVar 2)) [3] (.nm 3) (mAnd (mOp2 (fInB false) (mVar 1) (mVar 2)) (mOp2 fNe (mVar 3) (mVar 1))) (mVar 3)) aNil))))
theorem sc_Rivals___getitem__ : FnScope ["self", "one", "pair", "other"] ["self", "one"] (defScope s_Rivals___getitem__) := ⟨rfl, rfl, rfl, by decide +kernel, rfl, by decide +kernel, by decide +kernel⟩
theorem okF_Rivals___getitem__ (T : Txt P w K mg fn cl) {fd : FuncData} (F : L2.Fun K "__getitem__" "Rivals.__getitem__" s_Rivals___getitem__ (fn 13) fd) : FnOk P w K mg base CX0 3 (fn 13) fd ["self", "one"] (spF ⟨K, cl, w⟩ m_Rivals___getitem__ 2) :=
  fn_ok0 F sc_Rivals___getitem__ rfl (by decide) fun cdv A outer s H E hr => by
    have sc := sc_Rivals___getitem__
    have O_is_integer := ok_is_integer (P := P) (w := w) (base := base) T
    have hu64 := hr.units
    have hu65 := hu65_of hr
    have hu1 := hu_of hr
    exact ⟨_, (pss_cons (ps_if (pt_not (pt_truthW (pe_callO O_is_integer (hr.mono (by decide)) T.g_is_integer (pa_cons (pv 1) (pa_cons pe_int (pa_cons (pe_fld (pv 0) rfl) pa_nil)))) (fun _ => rfl))) (pss_one ps_never) pss_nil)
      (pss_one (ps_ret (pe_callB call_sorts (by rfl) T.b_sorted (by decide +kernel) (pa_cons (pe_lc2 (own := [("pair", 2), ("other", 3)]) (vs1 := [3]) rfl sc.nd (pi_walkL (pe_fld (pv 0) rfl)) (by show BlkOk ["self", "one", "pair", "other"] (defScope s_Rivals___getitem__) _ _; exact ⟨rfl, by decide +kernel, by decide +kernel, by decide +kernel, by decide +kernel⟩) (by decide) (fun _ _ _ _ _ => (pg_name (i := 2) sc.nd rfl (Or.inl rfl))) (fun _ _ _ _ _ => pts_nil) (fun _ _ _ _ _ => (pi_walkL (pv 2))) (fun _ _ _ _ _ => (pg_name (i := 3) sc.nd rfl (Or.inl rfl))) (fun _ _ _ _ _ => (pts_one (PW.pt (pw_and (pt_cmpR (((or_din hu1).or op_in_seq).or (op_inDT hu65)) (pv 1) (pv 2) (by rfl)) (pw_and1 (pt_cmpR (op_neD hu64) (pv 3) (pv 1) (nomark _))))))) (fun _ _ _ _ _ => (pv 3))) pa_nil))))),
      (semS_seq (semS_if (semT_not (semT_tru (sem_call mFn0_len (semA_cons sem_var (semA_cons sem_int (semA_cons (sem_fld T.h_many sem_var) semA_nil)))))) semS_never semS_nx) (semS_ret (sem_cb cs_sorts (semA_cons (sem_lc2 (E1 := E0) (E2 := E0) (semI_walkL (E := E0) (sem_fld T.h_pairs sem_var)) g_name (semI_walkL (E := E0) sem_var) g_name (semT_and (semT_test (sem_op os_inB sem_var sem_var)) (semT_test (sem_op os_ne sem_var sem_var))) sem_var (by decide) (by decide) (by decide)) semA_nil))))⟩
theorem ok_Rivals___getitem__ (T : Txt P w K mg fn cl) : OkAt P w K mg base CX0 3 (fn 13) ["self", "one"] (spF ⟨K, cl, w⟩ m_Rivals___getitem__ 2) := by
  obtain ⟨fd, F, B⟩ := T.d_Rivals___getitem__.fu
  exact ⟨fd, okF_Rivals___getitem__ T F, B, F.kp⟩
def m_check_rivals : Fn := mFn 1 1 (sIf (mNot (mTru (mIs (ansC kitO is_Rivals) (mVar 0)))) (sRaise 3 (aCons (mC .non) aNil)) sNx)
theorem sc_check_rivals : FnScope ["rivals"] ["rivals"] (defScope s_check_rivals) := ⟨rfl, rfl, rfl, by decide +kernel, rfl, by decide +kernel, by decide +kernel⟩
theorem ok_check_rivals (T : Txt P w K mg fn cl) {fd : FuncData} (F : L2.Fun K "check_rivals" "check_rivals" s_check_rivals (fn 17) fd) : FnOk P w K mg base (L2.CX P w) 2 (fn 17) fd ["rivals"] (spF ⟨K, cl, w⟩ m_check_rivals 1) :=
  okx F sc_check_rivals rfl (by decide) fun cdv A outer s H E hr => by
    obtain ⟨fI_BadRivals, fd_BadRivals, X_BadRivals, B_BadRivals, G_BadRivals⟩ := T.x_BadRivals
    have sc := sc_check_rivals
    exact ⟨_, (pss_one (ps_if (pt_not (pt_truthW (pe_callB call_isO (by rfl) T.b_isinstance (by decide +kernel) (pa_cons (pv 0) (pa_cons (pe_k (v := .ref (cl 5)) ⟨_, T.c_Rivals, rfl⟩) pa_nil))) (fun _ => rfl))) (pss_one (ps_raiseBad rfl (takes_of rfl rfl rfl rfl) X_BadRivals B_BadRivals hr G_BadRivals (pa_cons pe_non pa_nil))) pss_nil)),
      (semS_if (semT_not (semT_tru (sem_is T.is_Rivals (.own _) sem_var))) (semS_raise (c := 3) (semA_cons sem_non semA_nil)) semS_nx)⟩
theorem okr_check_rivals (T : Txt P w K mg fn cl) : OkAt P w K mg base (L2.CX P w) 2 (fn 17) ["rivals"] (spF ⟨K, cl, w⟩ m_check_rivals 1) := by
  obtain ⟨fd, F, B⟩ := T.d_check_rivals.fu
  exact ⟨fd, ok_check_rivals T F, B, F.kp⟩
def m_is_pair : Fn := mFn0 2 2 (sRet (mAnd (mCall m_are_integers (aCons (mVar 1) (aCons (mC (.int (0))) (aCons (mVar 0) aNil)))) (mAnd (mOp2 fEq (mCB (fOr1 fLen fLenD) (aCons (mVar 1) aNil)) (mC (.int (2)))) (mOp2 (fOr (fCmp fun i j => decide (i < j)) fLtT) (mOp2 fIxA (mVar 1) (mC (.int (0)))) (mOp2 fIxA (mVar 1) (mC (.int (1))))))))
theorem sc_is_pair : FnScope ["many", "pair"] ["many", "pair"] (defScope s_is_pair) := ⟨rfl, rfl, rfl, by decide +kernel, rfl, by decide +kernel, by decide +kernel⟩
theorem okF_is_pair (T : Txt P w K mg fn cl) {fd : FuncData} (F : L2.Fun K "is_pair" "is_pair" s_is_pair (fn 19) fd) : FnOk P w K mg base CX0 4 (fn 19) fd ["many", "pair"] (spF ⟨K, cl, w⟩ m_is_pair 2) :=
  fn_ok0 F sc_is_pair rfl (by decide) fun cdv A outer s H E hr => by
    have sc := sc_is_pair
    have O_are_integers := ok_are_integers (P := P) (w := w) (base := base) T
    have hu64 := hr.units
    have hu1 := hu_of hr
    exact ⟨_, (pss_one (ps_ret (pe_and (pe_callO O_are_integers (hr.mono (by decide)) T.g_are_integers (pa_cons (pv 1) (pa_cons pe_int (pa_cons (pv 0) pa_nil)))) (pe_and (pe_cmpR (op_eqD hu64) (pe_callB call_lens (by rfl) T.b_len (by decide +kernel) (pa_cons (pv 1) pa_nil)) pe_int (nomark _)) (pe_one (pe_cmpR (op_lt.or (op_ltT (Nat.lt_of_succ_lt hu1))) (pe_ix (ix_all hu1) (pv 1) pe_int (fun _ _ => rfl)) (pe_ix (ix_all hu1) (pv 1) pe_int (fun _ _ => rfl)) (nomark _))))))),
      (semS_ret (sem_andV (sem_call mFn0_len (semA_cons sem_var (semA_cons sem_int (semA_cons sem_var semA_nil)))) (sem_andV (sem_op os_eq (sem_cb (cs_or cs_len cs_lenD) (semA_cons sem_var semA_nil)) sem_int) (sem_op (os_or os_cmp os_ltT) (sem_op os_ixA sem_var sem_int) (sem_op os_ixA sem_var sem_int)))))⟩
theorem ok_is_pair (T : Txt P w K mg fn cl) : OkAt P w K mg base CX0 4 (fn 19) ["many", "pair"] (spF ⟨K, cl, w⟩ m_is_pair 2) := by
  obtain ⟨fd, F, B⟩ := T.d_is_pair.fu
  exact ⟨fd, okF_is_pair T F, B, F.kp⟩
def m_are_pairs : Fn := mFn0 2 3 (sRet (mAnd (mIs (ansT "tuple") (mVar 1)) (mAnd (mCB fAll (aCons (mLc (iWalkA (mVar 1)) [2] (.nm 2) mYes (mCall m_is_pair (aCons (mVar 0) (aCons (mVar 2) aNil)))) aNil)) (mCall m_is_ascending (aCons (mVar 1) aNil)))))
theorem sc_are_pairs : FnScope ["many", "pairs", "pair"] ["many", "pairs"] (defScope s_are_pairs) := ⟨rfl, rfl, rfl, by decide +kernel, rfl, by decide +kernel, by decide +kernel⟩
theorem okF_are_pairs (T : Txt P w K mg fn cl) {fd : FuncData} (F : L2.Fun K "are_pairs" "are_pairs" s_are_pairs (fn 20) fd) : FnOk P w K mg base CX0 5 (fn 20) fd ["many", "pairs"] (spF ⟨K, cl, w⟩ m_are_pairs 2) :=
  fn_ok0 F sc_are_pairs rfl (by decide) fun cdv A outer s H E hr => by
    have sc := sc_are_pairs
    have O_is_ascending := ok_is_ascending (P := P) (w := w) (base := base) T
    have O_is_pair := ok_is_pair (P := P) (w := w) (base := base) T
    exact ⟨_, (pss_one (ps_ret (pe_and (pe_callB call_isO (by rfl) T.b_isinstance (by decide +kernel) (pa_cons (pv 1) (pa_cons (pe_bltn (v := .ty "tuple") (by rfl) T.b_tuple (by decide +kernel) rfl) pa_nil))) (pe_and (pe_callB (cr_all rfl) (by rfl) T.b_all (by decide +kernel) (pa_cons (pe_lc (own := [("pair", 2)]) rfl sc.nd (pi_walkL (pv 1)) (by show BlkOk ["many", "pairs", "pair"] (defScope s_are_pairs) _ _; exact ⟨rfl, by decide +kernel, by decide +kernel, by decide +kernel, by decide +kernel⟩) (fun _ _ _ _ _ => (pg_name (i := 2) sc.nd rfl (Or.inl rfl))) (fun _ _ _ _ _ => pts_nil) (fun _ _ _ _ _ => (pe_callO O_is_pair (hr.mono (by decide)) T.g_is_pair (pa_cons (pv 0) (pa_cons (pv 2) pa_nil))))) pa_nil)) (pe_one (pe_callO O_is_ascending (hr.mono (by decide)) T.g_is_ascending (pa_cons (pv 1) pa_nil))))))),
      (semS_ret (sem_andV (sem_is (is_ty (by decide)) (.ty _) sem_var) (sem_andV (sem_cb cs_all (semA_cons (sem_lc (E1 := E0) (E2 := E0) (semI_walkL (E := E0) sem_var) g_name semT_yes (sem_call mFn0_len (semA_cons sem_var (semA_cons sem_var semA_nil))) (by decide)) semA_nil)) (sem_call mFn0_len (semA_cons sem_var semA_nil)))))⟩
theorem ok_are_pairs (T : Txt P w K mg fn cl) : OkAt P w K mg base CX0 5 (fn 20) ["many", "pairs"] (spF ⟨K, cl, w⟩ m_are_pairs 2) := by
  obtain ⟨fd, F, B⟩ := T.d_are_pairs.fu
  exact ⟨fd, okF_are_pairs T F, B, F.kp⟩
def m_all_partings : Fn := mFn0 1 7 (sSeq (sAsgV 1 (mLst (aCons (mTup aNil) aNil))) (sSeq (sFor (iRange1 (aCons (mFld [5] "many" (mVar 0)) aNil)) (.nm 2) (sSeq (sAsgV 3 (mLc (iWalkA (mGetO 5 m_Rivals___getitem__ (mVar 0) (mVar 2))) [4] (.nm 4) (mOp2 (fOr (fCmp fun i j => decide (i < j)) fLtT) (mVar 4) (mVar 2)) (mVar 4))) (sAsgV 1 (mLc2 (iWalkA (mVar 1)) [5, 6] (.nm 5) (iRange1 (aCons (mOp2 fAddA (mCKw (fBestD true) (aCons (mVar 5) aNil) (aCons (mUn fNeg (mC (.int (1)))) aNil)) (mC (.int (2)))) aNil)) [6] (.nm 6) (mOp2 (fInB true) (mVar 6) (mLc (iWalkA (mVar 3)) [4] (.nm 4) mYes (mOp2 fIxA (mVar 5) (mVar 4)))) (mOp2 fAddA (mVar 5) (mTup (aCons (mVar 6) aNil))))))) (sRet (mVar 1))))
theorem sc_all_partings : FnScope ["rivals", "found", "one", "near", "other", "rooms", "room"] ["rivals"] (defScope s_all_partings) := ⟨rfl, rfl, rfl, by decide +kernel, rfl, by decide +kernel, by decide +kernel⟩
theorem okF_all_partings (T : Txt P w K mg fn cl) {fd : FuncData} (F : L2.Fun K "all_partings" "all_partings" s_all_partings (fn 24) fd) : FnOk P w K mg base CX0 6 (fn 24) fd ["rivals"] (spF ⟨K, cl, w⟩ m_all_partings 1) :=
  fn_ok0 F sc_all_partings rfl (by decide) fun cdv A outer s H E hr => by
    have sc := sc_all_partings
    have O_Rivals___getitem__ := ok_Rivals___getitem__ (P := P) (w := w) (base := base) T
    have hu64 := hr.units
    have hu65 := hu65_of hr
    have hu1 := hu_of hr
    exact ⟨_, (pss_cons (ps_set (i := 1) sc.nd rfl (Or.inl rfl) (pe_lst (pa_cons (pe_tup pa_nil) pa_nil)))
      (pss_cons (ps_for PassesOwn.never rfl (pi_range1 (by rfl) T.b_range (pa_cons (pe_fld (pv 0) rfl) pa_nil)) (pg_name (i := 2) sc.nd rfl (Or.inr rfl)) (pss_cons (ps_set (i := 3) sc.nd rfl (Or.inr rfl) (pe_lc (own := [("other", 4)]) rfl sc.nd (pi_walkL (pe_getO O_Rivals___getitem__ T.gt_Rivals pass0 (hr.mono (by decide)) (pv 0) (pv 2) (fun _ _ => by with_unfolding_all rfl))) (by show BlkOk ["rivals", "found", "one", "near", "other", "rooms", "room"] (defScope s_all_partings) _ _; exact ⟨rfl, by decide +kernel, by decide +kernel, by decide +kernel, by decide +kernel⟩) (fun _ _ _ _ _ => (pg_name (i := 4) sc.nd rfl (Or.inl rfl))) (fun _ _ _ _ _ => (pts_one (pt_cmpR (op_lt.or (op_ltT (Nat.lt_of_succ_lt hu1))) (pv 4) (pv 2) (nomark _)))) (fun _ _ _ _ _ => (pv 4))))
      (pss_one (ps_setLc2 (i := 1) (own := [("rooms", 5), ("room", 6)]) (vs1 := [6]) rfl sc.nd rfl rfl (by rfl) (pi_walkL (pv 1)) (by show BlkOk ["rivals", "found", "one", "near", "other", "rooms", "room"] (defScope s_all_partings) _ _; exact ⟨rfl, by decide +kernel, by decide +kernel, by decide +kernel, by decide +kernel⟩) (by decide) (fun _ _ _ _ _ => (pg_name (i := 5) sc.nd rfl (Or.inr rfl))) (fun _ _ _ _ _ => pts_nil) (fun _ _ _ _ _ => (pi_range1 (by rfl) T.b_range (pa_cons (pe_op op_addA (pe_callBK (cr_bestD (mx := true) rfl hu64) (by rfl) T.b_max (by decide +kernel) (pa_cons (pv 5) pa_nil) (pk_cons (pe_un un_neg pe_int) pk_nil)) pe_int) pa_nil))) (fun _ _ _ _ _ => (pg_name (i := 6) sc.nd rfl (Or.inl rfl))) (fun _ _ _ _ _ => (pts_one (pt_cmpR (((or_dnin hu1).or op_notIn_seq).or (op_notInDT hu65)) (pv 6) (pe_lc (own := [("other", 4)]) rfl sc.nd (pi_walkL (pv 3)) (L2.blkOk_by (by kernel_rfl)) (fun _ _ _ _ _ => (pg_name (i := 4) sc.nd rfl (Or.inl rfl))) (fun _ _ _ _ _ => pts_nil) (fun _ _ _ _ _ => (pe_ix (ix_all hu1) (pv 5) (pv 4) (fun _ _ => rfl)))) (by rfl)))) (fun _ _ _ _ _ => (pe_op op_addA (pv 5) (pe_tup (pa_cons (pv 6) pa_nil))))))))
      (pss_one (ps_ret (pv 1))))),
      (semS_seq (semS_asgV (sem_lst (semA_cons (sem_tup semA_nil) semA_nil))) (semS_seq (semS_for (semI_range1 (E := E0) (semA_cons (sem_fld T.h_many sem_var) semA_nil)) g_name (semS_seq (semS_asgV (sem_lc (E1 := E0) (E2 := E0) (semI_walkL (E := E0) (sem_getO (E1 := _) (c := 5) (.inr mFn0_noex) mFn0_len sem_var sem_var)) g_name (semT_test (sem_op (os_or os_cmp os_ltT) sem_var sem_var)) sem_var (by decide))) (semS_asgV (sem_lc2 (E1 := E0) (E2 := E0) (semI_walkL (E := E0) sem_var) g_name (semI_range1 (E := E0) (semA_cons (sem_op os_addA (sem_bestD (mx := true) (semA_cons sem_var semA_nil) (semA_cons (sem_neg sem_int) semA_nil)) sem_int) semA_nil)) g_name (semT_test (sem_op os_inB sem_var (sem_lc (E1 := E0) (E2 := E0) (semI_walkL (E := E0) sem_var) g_name semT_yes (sem_op os_ixA sem_var sem_var) (by decide)))) (sem_op os_addA sem_var (sem_tup (semA_cons sem_var semA_nil))) (by decide) (by decide) (by decide))))) (semS_ret sem_var)))⟩
theorem ok_all_partings (T : Txt P w K mg fn cl) : OkAt P w K mg base CX0 6 (fn 24) ["rivals"] (spF ⟨K, cl, w⟩ m_all_partings 1) := by
  obtain ⟨fd, F, B⟩ := T.d_all_partings.fu
  exact ⟨fd, okF_all_partings T F, B, F.kp⟩
def m_choices : Fn := mFn0 2 4 (sSeq (sAsgV 2 (mC (.int (1)))) (sSeq (sFor (iRange1 (aCons (mVar 1) aNil)) (.nm 3) (sAsgV 2 (mOp2 fMulA (mVar 2) (mOp2 (fInt fun i j => i - j) (mVar 0) (mVar 3))))) (sRet (mVar 2))))
theorem sc_choices : FnScope ["limit", "sets", "number", "taken"] ["limit", "sets"] (defScope s_choices) := ⟨rfl, rfl, rfl, by decide +kernel, rfl, by decide +kernel, by decide +kernel⟩
theorem okF_choices (T : Txt P w K mg fn cl) {fd : FuncData} (F : L2.Fun K "choices" "choices" s_choices (fn 25) fd) : FnOk P w K mg base CX0 1 (fn 25) fd ["limit", "sets"] (spF ⟨K, cl, w⟩ m_choices 2) :=
  fn_ok0 F sc_choices rfl (by decide) fun cdv A outer s H E hr => by
    have sc := sc_choices
    exact ⟨_, (pss_cons (ps_set (i := 2) sc.nd rfl (Or.inl rfl) pe_int)
      (pss_cons (ps_for PassesOwn.never rfl (pi_range1 (by rfl) T.b_range (pa_cons (pv 1) pa_nil)) (pg_name (i := 3) sc.nd rfl (Or.inl rfl)) (pss_one (ps_set (i := 2) sc.nd rfl (Or.inl rfl) (pe_op op_mulA (pv 2) (pe_op op_sub (pv 0) (pv 3))))))
      (pss_one (ps_ret (pv 2))))),
      (semS_seq (semS_asgV sem_int) (semS_seq (semS_for (semI_range1 (E := E0) (semA_cons sem_var semA_nil)) g_name (semS_asgV (sem_op os_mulA sem_var (sem_op os_int sem_var sem_var)))) (semS_ret sem_var)))⟩
theorem ok_choices (T : Txt P w K mg fn cl) : OkAt P w K mg base CX0 1 (fn 25) ["limit", "sets"] (spF ⟨K, cl, w⟩ m_choices 2) := by
  obtain ⟨fd, F, B⟩ := T.d_choices.fu
  exact ⟨fd, okF_choices T F, B, F.kp⟩
def m_law_cell_at : Fn := mFn0 2 2 (sSeq (sIf (mOp2 (fOr (fCmp fun i j => decide (i < j)) fLtT) (mVar 1) (mCB (fOr1 fLen fLenD) (aCons (mVar 0) aNil))) (sRet (mOp2 fIxA (mVar 0) (mVar 1))) sNx) (sRet (mC (.int (0)))))
theorem sc_law_cell_at : FnScope ["script", "k"] ["script", "k"] (defScope s_law_cell_at) := ⟨rfl, rfl, rfl, by decide +kernel, rfl, by decide +kernel, by decide +kernel⟩
theorem okF_law_cell_at (T : Txt P w K mg fn cl) {fd : FuncData} (F : L2.Fun K "_law_cell_at" "_law_cell_at" s_law_cell_at (fn 26) fd) : FnOk P w K mg base CX0 1 (fn 26) fd ["script", "k"] (spF ⟨K, cl, w⟩ m_law_cell_at 2) :=
  fn_ok0 F sc_law_cell_at rfl (by decide) fun cdv A outer s H E hr => by
    have sc := sc_law_cell_at
    have hu1 := hu_of hr
    exact ⟨_, (pss_cons (ps_if (pt_cmpR (op_lt.or (op_ltT (Nat.lt_of_succ_lt hu1))) (pv 1) (pe_callB call_lens (by rfl) T.b_len (by decide +kernel) (pa_cons (pv 0) pa_nil)) (nomark _)) (pss_one (ps_ret (pe_ix (ix_all hu1) (pv 0) (pv 1) (fun _ _ => rfl)))) pss_nil)
      (pss_one (ps_ret pe_int))),
      (semS_seq (semS_if (semT_test (sem_op (os_or os_cmp os_ltT) sem_var (sem_cb (cs_or cs_len cs_lenD) (semA_cons sem_var semA_nil)))) (semS_ret (sem_op os_ixA sem_var sem_var)) semS_nx) (semS_ret sem_int))⟩
theorem ok_law_cell_at (T : Txt P w K mg fn cl) : OkAt P w K mg base CX0 1 (fn 26) ["script", "k"] (spF ⟨K, cl, w⟩ m_law_cell_at 2) := by
  obtain ⟨fd, F, B⟩ := T.d_law_cell_at.fu
  exact ⟨fd, okF_law_cell_at T F, B, F.kp⟩
def m_law_draw : Fn := mFn0 3 4 (sSeq (sAsgV 3 (mTup (aCons (mC (.int (1000003))) (aCons (mC (.int (1000033))) (aCons (mC (.int (1000037))) (aCons (mC (.int (1000039))) (aCons (mC (.int (1000081))) (aCons (mC (.int (1000099))) (aCons (mC (.int (1000117))) (aCons (mC (.int (1000121))) aNil)))))))))) (sSeq (sAsgV 3 (mOp2 fAddA (mVar 3) (mTup (aCons (mC (.int (1000133))) (aCons (mC (.int (1000151))) (aCons (mC (.int (1000159))) (aCons (mC (.int (1000171))) (aCons (mC (.int (1000183))) (aCons (mC (.int (1000187))) (aCons (mC (.int (1000193))) (aCons (mC (.int (1000199))) aNil))))))))))) (sRet (mOp2 (fIntC bMod fun i j => i % j) (mCB fIntOf (aCons (mOp2 (fIntC bMod fun i j => i % j) (mCB fIntOf (aCons (mOp2 fAddA (mOp2 fMulA (mVar 0) (mC (.int (48271)))) (mOp2 fMulA (mVar 1) (mC (.int (69621))))) aNil)) (mOp2 fIxA (mVar 3) (mOp2 (fIntC bMod fun i j => i % j) (mCB fIntOf (aCons (mVar 1) aNil)) (mC (.int (16)))))) aNil)) (mVar 2)))))
theorem sc_law_draw : FnScope ["cell", "k", "bound", "primes"] ["cell", "k", "bound"] (defScope s_law_draw) := ⟨rfl, rfl, rfl, by decide +kernel, rfl, by decide +kernel, by decide +kernel⟩
theorem okF_law_draw (T : Txt P w K mg fn cl) {fd : FuncData} (F : L2.Fun K "_law_draw" "_law_draw" s_law_draw (fn 27) fd) : FnOk P w K mg base CX0 1 (fn 27) fd ["cell", "k", "bound"] (spF ⟨K, cl, w⟩ m_law_draw 3) :=
  fn_ok0 F sc_law_draw rfl (by decide) fun cdv A outer s H E hr => by
    have sc := sc_law_draw
    have hu1 := hu_of hr
    exact ⟨_, (pss_cons (ps_set (i := 3) sc.nd rfl (Or.inl rfl) (pe_tup (pa_cons pe_int (pa_cons pe_int (pa_cons pe_int (pa_cons pe_int (pa_cons pe_int (pa_cons pe_int (pa_cons pe_int (pa_cons pe_int pa_nil))))))))))
      (pss_cons (ps_set (i := 3) sc.nd rfl (Or.inl rfl) (pe_op op_addA (pv 3) (pe_tup (pa_cons pe_int (pa_cons pe_int (pa_cons pe_int (pa_cons pe_int (pa_cons pe_int (pa_cons pe_int (pa_cons pe_int (pa_cons pe_int pa_nil)))))))))))
      (pss_one (ps_ret (pe_op op_mod (pe_callTy call_int1 (by rfl) T.b_int (by decide +kernel) (pa_cons (pe_op op_mod (pe_callTy call_int1 (by rfl) T.b_int (by decide +kernel) (pa_cons (pe_op op_addA (pe_op op_mulA (pv 0) pe_int) (pe_op op_mulA (pv 1) pe_int)) pa_nil)) (pe_ix (ix_all hu1) (pv 3) (pe_op op_mod (pe_callTy call_int1 (by rfl) T.b_int (by decide +kernel) (pa_cons (pv 1) pa_nil)) pe_int) (fun _ _ => rfl))) pa_nil)) (pv 2)))))),
      (semS_seq (semS_asgV (sem_tup (semA_cons sem_int (semA_cons sem_int (semA_cons sem_int (semA_cons sem_int (semA_cons sem_int (semA_cons sem_int (semA_cons sem_int (semA_cons sem_int semA_nil)))))))))) (semS_seq (semS_asgV (sem_op os_addA sem_var (sem_tup (semA_cons sem_int (semA_cons sem_int (semA_cons sem_int (semA_cons sem_int (semA_cons sem_int (semA_cons sem_int (semA_cons sem_int (semA_cons sem_int semA_nil))))))))))) (semS_ret (sem_op os_mod (sem_cb cs_intOf (semA_cons (sem_op os_mod (sem_cb cs_intOf (semA_cons (sem_op os_addA (sem_op os_mulA sem_var sem_int) (sem_op os_mulA sem_var sem_int)) semA_nil)) (sem_op os_ixA sem_var (sem_op os_mod (sem_cb cs_intOf (semA_cons sem_var semA_nil)) sem_int))) semA_nil)) sem_var))))⟩
theorem ok_law_draw (T : Txt P w K mg fn cl) : OkAt P w K mg base CX0 1 (fn 27) ["cell", "k", "bound"] (spF ⟨K, cl, w⟩ m_law_draw 3) := by
  obtain ⟨fd, F, B⟩ := T.d_law_draw.fu
  exact ⟨fd, okF_law_draw T F, B, F.kp⟩
def m_law_number : Fn := mFn0 3 8 (sSeq (sAsgV 3 (mC (.int (1)))) (sSeq (sFor (iRange1 (aCons (mOp2 (fIntC bMod fun i j => i % j) (mCB fIntOf (aCons (mVar 1) aNil)) (mC (.int (24)))) aNil)) (.nm 4) (sAsgV 3 (mOp2 fMulA (mVar 3) (mC (.int (1009)))))) (sSeq (sAsgV 5 (mOp2 (fIntC bDivW fun i j => i / j) (mOp2 (fInt fun i j => i - j) (mVar 0) (mOp2 (fIntC bPow fun i j => i ^ j.toNat) (mC (.int (10))) (mC (.int (18))))) (mVar 3))) (sSeq (sIf (mOp2 (fCmp fun i j => decide (j < i)) (mVar 5) (mC (.int (0)))) (sRet (mOp2 (fIntC bMod fun i j => i % j) (mCB fIntOf (aCons (mOp2 (fIntC bMod fun i j => i % j) (mCB fIntOf (aCons (mVar 5) aNil)) (mC (.int (1009)))) aNil)) (mVar 2))) sNx) (sSeq (sAsgV 6 (mOp2 (fIntC bMod fun i j => i % j) (mCB fIntOf (aCons (mVar 0) aNil)) (mC (.int (1000003))))) (sSeq (sAsgV 7 (mOp2 fMulA (mOp2 fAddA (mVar 6) (mOp2 fMulA (mC (.int (977))) (mVar 1))) (mOp2 fAddA (mOp2 fAddA (mVar 6) (mOp2 fMulA (mC (.int (31))) (mVar 1))) (mC (.int (5)))))) (sRet (mOp2 (fIntC bMod fun i j => i % j) (mCB fIntOf (aCons (mCall m_law_draw (aCons (mVar 7) (aCons (mOp2 fAddA (mOp2 (fIntC bMod fun i j => i % j) (mCB fIntOf (aCons (mVar 1) aNil)) (mC (.int (9)))) (mC (.int (1)))) (aCons (mC (.int (999983))) aNil)))) aNil)) (mVar 2)))))))))
theorem sc_law_number : FnScope ["cell", "k", "bound", "power", "times", "rest", "small", "blend"] ["cell", "k", "bound"] (defScope s_law_number) := ⟨rfl, rfl, rfl, by decide +kernel, rfl, by decide +kernel, by decide +kernel⟩
theorem okF_law_number (T : Txt P w K mg fn cl) {fd : FuncData} (F : L2.Fun K "_law_number" "_law_number" s_law_number (fn 28) fd) : FnOk P w K mg base CX0 2 (fn 28) fd ["cell", "k", "bound"] (spF ⟨K, cl, w⟩ m_law_number 3) :=
  fn_ok0 F sc_law_number rfl (by decide) fun cdv A outer s H E hr => by
    have sc := sc_law_number
    have O_law_draw := ok_law_draw (P := P) (w := w) (base := base) T
    exact ⟨_, (pss_cons (ps_set (i := 3) sc.nd rfl (Or.inl rfl) pe_int)
      (pss_cons (ps_for PassesOwn.never rfl (pi_range1 (by rfl) T.b_range (pa_cons (pe_op op_mod (pe_callTy call_int1 (by rfl) T.b_int (by decide +kernel) (pa_cons (pv 1) pa_nil)) pe_int) pa_nil)) (pg_name (i := 4) sc.nd rfl (Or.inl rfl)) (pss_one (ps_set (i := 3) sc.nd rfl (Or.inl rfl) (pe_op op_mulA (pv 3) pe_int))))
      (pss_cons (ps_set (i := 5) sc.nd rfl (Or.inl rfl) (pe_op op_fdivW (pe_op op_sub (pv 0) (pe_op op_pow pe_int pe_int)) (pv 3)))
      (pss_cons (ps_if (pt_cmpR op_gt (pv 5) pe_int (nomark _)) (pss_one (ps_ret (pe_op op_mod (pe_callTy call_int1 (by rfl) T.b_int (by decide +kernel) (pa_cons (pe_op op_mod (pe_callTy call_int1 (by rfl) T.b_int (by decide +kernel) (pa_cons (pv 5) pa_nil)) pe_int) pa_nil)) (pv 2)))) pss_nil)
      (pss_cons (ps_set (i := 6) sc.nd rfl (Or.inl rfl) (pe_op op_mod (pe_callTy call_int1 (by rfl) T.b_int (by decide +kernel) (pa_cons (pv 0) pa_nil)) pe_int))
      (pss_cons (ps_set (i := 7) sc.nd rfl (Or.inl rfl) (pe_op op_mulA (pe_op op_addA (pv 6) (pe_op op_mulA pe_int (pv 1))) (pe_op op_addA (pe_op op_addA (pv 6) (pe_op op_mulA pe_int (pv 1))) pe_int)))
      (pss_one (ps_ret (pe_op op_mod (pe_callTy call_int1 (by rfl) T.b_int (by decide +kernel) (pa_cons (pe_callO O_law_draw (hr.mono (by decide)) T.g_law_draw (pa_cons (pv 7) (pa_cons (pe_op op_addA (pe_op op_mod (pe_callTy call_int1 (by rfl) T.b_int (by decide +kernel) (pa_cons (pv 1) pa_nil)) pe_int) pe_int) (pa_cons pe_int pa_nil)))) pa_nil)) (pv 2)))))))))),
      (semS_seq (semS_asgV sem_int) (semS_seq (semS_for (semI_range1 (E := E0) (semA_cons (sem_op os_mod (sem_cb cs_intOf (semA_cons sem_var semA_nil)) sem_int) semA_nil)) g_name (semS_asgV (sem_op os_mulA sem_var sem_int))) (semS_seq (semS_asgV (sem_op os_divW (sem_op os_int sem_var (sem_op os_pow sem_int sem_int)) sem_var)) (semS_seq (semS_if (semT_test (sem_op os_cmp sem_var sem_int)) (semS_ret (sem_op os_mod (sem_cb cs_intOf (semA_cons (sem_op os_mod (sem_cb cs_intOf (semA_cons sem_var semA_nil)) sem_int) semA_nil)) sem_var)) semS_nx) (semS_seq (semS_asgV (sem_op os_mod (sem_cb cs_intOf (semA_cons sem_var semA_nil)) sem_int)) (semS_seq (semS_asgV (sem_op os_mulA (sem_op os_addA sem_var (sem_op os_mulA sem_int sem_var)) (sem_op os_addA (sem_op os_addA sem_var (sem_op os_mulA sem_int sem_var)) sem_int))) (semS_ret (sem_op os_mod (sem_cb cs_intOf (semA_cons (sem_call mFn0_len (semA_cons sem_var (semA_cons (sem_op os_addA (sem_op os_mod (sem_cb cs_intOf (semA_cons sem_var semA_nil)) sem_int) sem_int) (semA_cons sem_int semA_nil)))) semA_nil)) sem_var))))))))⟩
theorem ok_law_number (T : Txt P w K mg fn cl) : OkAt P w K mg base CX0 2 (fn 28) ["cell", "k", "bound"] (spF ⟨K, cl, w⟩ m_law_number 3) := by
  obtain ⟨fd, F, B⟩ := T.d_law_number.fu
  exact ⟨fd, okF_law_number T F, B, F.kp⟩
def m_law_next : Fn := mFn0 2 4 (sSeq (sSetM 0 (mC (.int (2))) (mOp2 fAddA (mOpL fIxA 0 (mC (.int (2)))) (mC (.int (1))))) (sSeq (sAsgV 2 (mOp2 (fIntC bDivW fun i j => i / j) (mOpL fIxA 0 (mC (.int (2)))) (mC (.int (12))))) (sSeq (sAsgV 3 (mOp2 fAddA (mCall m_law_cell_at (aCons (mOpL fIxA 0 (mC (.int (0)))) (aCons (mOp2 fAddA (mOpL fIxA 0 (mC (.int (1)))) (mVar 2)) aNil))) (mOp2 fMulA (mC (.int (31))) (mVar 2)))) (sRet (mCall m_law_number (aCons (mVar 3) (aCons (mOp2 fAddA (mOp2 (fIntC bMod fun i j => i % j) (mCB fIntOf (aCons (mOpL fIxA 0 (mC (.int (2)))) aNil)) (mC (.int (12)))) (mC (.int (1)))) (aCons (mVar 1) aNil))))))))
theorem sc_law_next : FnScope ["draw", "bound", "at", "cell"] ["draw", "bound"] (defScope s_law_next) := ⟨rfl, rfl, rfl, by decide +kernel, rfl, by decide +kernel, by decide +kernel⟩
theorem okF_law_next (T : Txt P w K mg fn cl) {fd : FuncData} (F : L2.Fun K "_law_next" "_law_next" s_law_next (fn 29) fd) : FnOk P w K mg base CX0 3 (fn 29) fd ["draw", "bound"] (spF ⟨K, cl, w⟩ m_law_next 2) :=
  fn_ok0 F sc_law_next rfl (by decide) fun cdv A outer s H E hr => by
    have sc := sc_law_next
    have O_law_cell_at := ok_law_cell_at (P := P) (w := w) (base := base) T
    have O_law_number := ok_law_number (P := P) (w := w) (base := base) T
    have hu1 := hu_of hr
    exact ⟨_, (pss_cons (ps_asg (pe_op op_addA (pe_ix (ix_all hu1) (pv 0) pe_int (fun _ _ => rfl)) pe_int) (pg_sub (pv 0) pe_int set_list))
      (pss_cons (ps_set (i := 2) sc.nd rfl (Or.inl rfl) (pe_op op_fdivW (pe_ix (ix_all hu1) (pv 0) pe_int (fun _ _ => rfl)) pe_int))
      (pss_cons (ps_set (i := 3) sc.nd rfl (Or.inl rfl) (pe_op op_addA (pe_callO O_law_cell_at (hr.mono (by decide)) T.g_law_cell_at (pa_cons (pe_ix (ix_all hu1) (pv 0) pe_int (fun _ _ => rfl)) (pa_cons (pe_op op_addA (pe_ix (ix_all hu1) (pv 0) pe_int (fun _ _ => rfl)) (pv 2)) pa_nil))) (pe_op op_mulA pe_int (pv 2))))
      (pss_one (ps_ret (pe_callO O_law_number (hr.mono (by decide)) T.g_law_number (pa_cons (pv 3) (pa_cons (pe_op op_addA (pe_op op_mod (pe_callTy call_int1 (by rfl) T.b_int (by decide +kernel) (pa_cons (pe_ix (ix_all hu1) (pv 0) pe_int (fun _ _ => rfl)) pa_nil)) pe_int) pe_int) (pa_cons (pv 1) pa_nil))))))))),
      (semS_seq (semS_set sem_int (sem_op os_addA (sem_opL os_ixA sem_int) sem_int)) (semS_seq (semS_asgV (sem_op os_divW (sem_opL os_ixA sem_int) sem_int)) (semS_seq (semS_asgV (sem_op os_addA (sem_call mFn0_len (semA_cons (sem_opL os_ixA sem_int) (semA_cons (sem_op os_addA (sem_opL os_ixA sem_int) sem_var) semA_nil))) (sem_op os_mulA sem_int sem_var))) (semS_ret (sem_call mFn0_len (semA_cons sem_var (semA_cons (sem_op os_addA (sem_op os_mod (sem_cb cs_intOf (semA_cons (sem_opL os_ixA sem_int) semA_nil)) sem_int) sem_int) (semA_cons sem_var semA_nil))))))))⟩
theorem ok_law_next (T : Txt P w K mg fn cl) : OkAt P w K mg base CX0 3 (fn 29) ["draw", "bound"] (spF ⟨K, cl, w⟩ m_law_next 2) := by
  obtain ⟨fd, F, B⟩ := T.d_law_next.fu
  exact ⟨fd, okF_law_next T F, B, F.kp⟩
def m_law_every : Fn := mFn0 1 4 (sSeq (sAsgV 1 (mLst aNil)) (sSeq (sFor (iRange1 (aCons (mVar 0) aNil)) (.nm 2) (sAsgV 1 (mOp2 fAddA (mVar 1) (mLc (iRange2 (aCons (mOp2 fAddA (mVar 2) (mC (.int (1)))) (aCons (mVar 0) aNil))) [3] (.nm 3) mYes (mTup (aCons (mVar 2) (aCons (mVar 3) aNil))))))) (sRet (mVar 1))))
theorem sc_law_every : FnScope ["many", "found", "one", "other"] ["many"] (defScope s_law_every) := ⟨rfl, rfl, rfl, by decide +kernel, rfl, by decide +kernel, by decide +kernel⟩
theorem okF_law_every (T : Txt P w K mg fn cl) {fd : FuncData} (F : L2.Fun K "_law_every" "_law_every" s_law_every (fn 30) fd) : FnOk P w K mg base CX0 1 (fn 30) fd ["many"] (spF ⟨K, cl, w⟩ m_law_every 1) :=
  fn_ok0 F sc_law_every rfl (by decide) fun cdv A outer s H E hr => by
    have sc := sc_law_every
    exact ⟨_, (pss_cons (ps_set (i := 1) sc.nd rfl (Or.inl rfl) (pe_lst pa_nil))
      (pss_cons (ps_for PassesOwn.never rfl (pi_range1 (by rfl) T.b_range (pa_cons (pv 0) pa_nil)) (pg_name (i := 2) sc.nd rfl (Or.inr rfl)) (pss_one (ps_set (i := 1) sc.nd rfl (Or.inl rfl) (pe_op op_addA (pv 1) (pe_lc (own := [("other", 3)]) rfl sc.nd (pi_range2 (by rfl) T.b_range (pa_cons (pe_op op_addA (pv 2) pe_int) (pa_cons (pv 0) pa_nil))) (by show BlkOk ["many", "found", "one", "other"] (defScope s_law_every) _ _; exact ⟨rfl, by decide +kernel, by decide +kernel, by decide +kernel, by decide +kernel⟩) (fun _ _ _ _ _ => (pg_name (i := 3) sc.nd rfl (Or.inl rfl))) (fun _ _ _ _ _ => pts_nil) (fun _ _ _ _ _ => (pe_tup (pa_cons (pv 2) (pa_cons (pv 3) pa_nil)))))))))
      (pss_one (ps_ret (pv 1))))),
      (semS_seq (semS_asgV (sem_lst semA_nil)) (semS_seq (semS_for (semI_range1 (E := E0) (semA_cons sem_var semA_nil)) g_name (semS_asgV (sem_op os_addA sem_var (sem_lc (E1 := E0) (E2 := E0) (semI_range2 (E := E0) (semA_cons (sem_op os_addA sem_var sem_int) (semA_cons sem_var semA_nil))) g_name semT_yes (sem_tup (semA_cons sem_var (semA_cons sem_var semA_nil))) (by decide))))) (semS_ret sem_var)))⟩
theorem ok_law_every (T : Txt P w K mg fn cl) : OkAt P w K mg base CX0 1 (fn 30) ["many"] (spF ⟨K, cl, w⟩ m_law_every 1) := by
  obtain ⟨fd, F, B⟩ := T.d_law_every.fu
  exact ⟨fd, okF_law_every T F, B, F.kp⟩
def m_law_rivals : Fn := mFn0 2 5 (sSeq (sAsgP (.tu ((.nm 2) :: (.nm 3) :: [])) (mTup (aCons (mOp2 fAddA (mC (.int (1))) (mCall m_law_next (aSl 0 (aCons (mVar 1) aNil)))) (aCons (mOp2 fAddA (mC (.int (1))) (mCall m_law_next (aSl 0 (aCons (mC (.int (6))) aNil)))) aNil)))) (sRet (mTup (aCons (mVar 2) (aCons (mCB fTuple (aCons (mLc (iWalkA (mCall m_law_every (aCons (mVar 2) aNil))) [4] (.nm 4) (mOp2 (fOr (fCmp fun i j => decide (i < j)) fLtT) (mCall m_law_next (aSl 0 (aCons (mC (.int (7))) aNil))) (mVar 3)) (mVar 4)) aNil)) aNil)))))
theorem sc_law_rivals : FnScope ["draw", "most", "many", "dense", "pair"] ["draw", "most"] (defScope s_law_rivals) := ⟨rfl, rfl, rfl, by decide +kernel, rfl, by decide +kernel, by decide +kernel⟩
theorem okF_law_rivals (T : Txt P w K mg fn cl) {fd : FuncData} (F : L2.Fun K "_law_rivals" "_law_rivals" s_law_rivals (fn 31) fd) : FnOk P w K mg base CX0 4 (fn 31) fd ["draw", "most"] (spF ⟨K, cl, w⟩ m_law_rivals 2) :=
  fn_ok0 F sc_law_rivals rfl (by decide) fun cdv A outer s H E hr => by
    have sc := sc_law_rivals
    have O_law_every := ok_law_every (P := P) (w := w) (base := base) T
    have O_law_next := ok_law_next (P := P) (w := w) (base := base) T
    have hu1 := hu_of hr
    exact ⟨_, (pss_cons (ps_asg (pe_tup (pa_cons (pe_op op_addA pe_int (pe_callO O_law_next (hr.mono (by decide)) T.g_law_next (pa_cons (pv 0) (pa_cons (pv 1) pa_nil)))) (pa_cons (pe_op op_addA pe_int (pe_callO O_law_next (hr.mono (by decide)) T.g_law_next (pa_cons (pv 0) (pa_cons pe_int pa_nil)))) pa_nil))) (pg_tup (n := 2) rfl (pgs_cons (pg_name (i := 2) sc.nd rfl (Or.inl rfl)) (pgs_cons (pg_name (i := 3) sc.nd rfl (Or.inr rfl)) pgs_nil))))
      (pss_one (ps_ret (pe_tup (pa_cons (pv 2) (pa_cons (pe_callTy call_tuple_of (by rfl) T.b_tuple (by decide +kernel) (pa_cons (pe_lc (own := [("pair", 4)]) rfl sc.nd (pi_walkL (pe_callO O_law_every (hr.mono (by decide)) T.g_law_every (pa_cons (pv 2) pa_nil))) (by show BlkOk ["draw", "most", "many", "dense", "pair"] (defScope s_law_rivals) _ _; exact ⟨rfl, by decide +kernel, by decide +kernel, by decide +kernel, by decide +kernel⟩) (fun _ _ _ _ _ => (pg_name (i := 4) sc.nd rfl (Or.inl rfl))) (fun _ _ _ _ _ => (pts_one (pt_cmpR (op_lt.or (op_ltT (Nat.lt_of_succ_lt hu1))) (pe_callO O_law_next (hr.mono (by decide)) T.g_law_next (pa_cons (pv 0) (pa_cons pe_int pa_nil))) (pv 3) (nomark _)))) (fun _ _ _ _ _ => (pv 4))) pa_nil)) pa_nil)))))),
      (semS_seq (semS_asgP (g_tup (gs_cons g_name (gs_cons g_name gs_nil))) (sem_tup (semA_cons (sem_op os_addA sem_int (sem_call mFn0_len (semA_sl (semA_cons sem_var semA_nil)))) (semA_cons (sem_op os_addA sem_int (sem_call mFn0_len (semA_sl (semA_cons sem_int semA_nil)))) semA_nil)))) (semS_ret (sem_tup (semA_cons sem_var (semA_cons (sem_cb cs_tuple (semA_cons (sem_lc (E1 := E0) (E2 := E0) (semI_walkL (E := E0) (sem_call mFn0_len (semA_cons sem_var semA_nil))) g_name (semT_test (sem_op (os_or os_cmp os_ltT) (sem_call mFn0_len (semA_sl (semA_cons sem_int semA_nil))) sem_var)) sem_var (by decide)) semA_nil)) semA_nil)))))⟩
theorem ok_law_rivals (T : Txt P w K mg fn cl) : OkAt P w K mg base CX0 4 (fn 31) ["draw", "most"] (spF ⟨K, cl, w⟩ m_law_rivals 2) := by
  obtain ⟨fd, F, B⟩ := T.d_law_rivals.fu
  exact ⟨fd, okF_law_rivals T F, B, F.kp⟩
def m_law_are : Fn := mFn0 3 3 (sRet (mOp2 (fInB false) (mTup (aCons (mCB fMin2 (aCons (mCB fIntOf (aCons (mVar 1) aNil)) (aCons (mCB fIntOf (aCons (mVar 2) aNil)) aNil))) (aCons (mCB fMax2 (aCons (mCB fIntOf (aCons (mVar 1) aNil)) (aCons (mCB fIntOf (aCons (mVar 2) aNil)) aNil))) aNil))) (mOp2 fIxA (mVar 0) (mC (.int (1))))))
theorem sc_law_are : FnScope ["plain", "one", "other"] ["plain", "one", "other"] (defScope s_law_are) := ⟨rfl, rfl, rfl, by decide +kernel, rfl, by decide +kernel, by decide +kernel⟩
theorem okF_law_are (T : Txt P w K mg fn cl) {fd : FuncData} (F : L2.Fun K "_law_are" "_law_are" s_law_are (fn 32) fd) : FnOk P w K mg base CX0 1 (fn 32) fd ["plain", "one", "other"] (spF ⟨K, cl, w⟩ m_law_are 3) :=
  fn_ok0 F sc_law_are rfl (by decide) fun cdv A outer s H E hr => by
    have sc := sc_law_are
    have hu65 := hu65_of hr
    have hu1 := hu_of hr
    exact ⟨_, (pss_one (ps_ret (pe_cmpR (((or_din hu1).or op_in_seq).or (op_inDT hu65)) (pe_tup (pa_cons (pe_callB (call_min2 rfl) (by rfl) T.b_min (by decide +kernel) (pa_cons (pe_callTy call_int1 (by rfl) T.b_int (by decide +kernel) (pa_cons (pv 1) pa_nil)) (pa_cons (pe_callTy call_int1 (by rfl) T.b_int (by decide +kernel) (pa_cons (pv 2) pa_nil)) pa_nil))) (pa_cons (pe_callB (call_max2 rfl) (by rfl) T.b_max (by decide +kernel) (pa_cons (pe_callTy call_int1 (by rfl) T.b_int (by decide +kernel) (pa_cons (pv 1) pa_nil)) (pa_cons (pe_callTy call_int1 (by rfl) T.b_int (by decide +kernel) (pa_cons (pv 2) pa_nil)) pa_nil))) pa_nil))) (pe_ix (ix_all hu1) (pv 0) pe_int (fun _ _ => rfl)) (by rfl)))),
      (semS_ret (sem_op os_inB (sem_tup (semA_cons (sem_cb cs_min2 (semA_cons (sem_cb cs_intOf (semA_cons sem_var semA_nil)) (semA_cons (sem_cb cs_intOf (semA_cons sem_var semA_nil)) semA_nil))) (semA_cons (sem_cb cs_max2 (semA_cons (sem_cb cs_intOf (semA_cons sem_var semA_nil)) (semA_cons (sem_cb cs_intOf (semA_cons sem_var semA_nil)) semA_nil))) semA_nil))) (sem_op os_ixA sem_var sem_int)))⟩
theorem ok_law_are (T : Txt P w K mg fn cl) : OkAt P w K mg base CX0 1 (fn 32) ["plain", "one", "other"] (spF ⟨K, cl, w⟩ m_law_are 3) := by
  obtain ⟨fd, F, B⟩ := T.d_law_are.fu
  exact ⟨fd, okF_law_are T F, B, F.kp⟩
def m_law_triesB (m_law_tries : Fn) : Fn := mFn0 3 7 (sSeq (sAsgV 3 (mCB (fOr1 fLen fLenD) (aCons (mVar 2) aNil))) (sSeq (sIf (mOp2 fEq (mVar 3) (mOp2 fIxA (mVar 0) (mC (.int (0))))) (sRet (mC (.int (1)))) sNx) (sSeq (sAsgV 4 (mC (.int (0)))) (sSeq (sFor (iRange1 (aCons (mVar 1) aNil)) (.nm 5) (sIf (mNot (mTru (mCB fAny (aCons (mLc (iRange1 (aCons (mVar 3) aNil)) [6] (.nm 6) mYes (mAnd (mOp2 fEq (mOp2 fIxA (mVar 2) (mVar 6)) (mVar 5)) (mCall m_law_are (aCons (mVar 0) (aCons (mVar 6) (aCons (mVar 3) aNil)))))) aNil)))) (sAsgV 4 (mOp2 fAddA (mVar 4) (mCall m_law_tries (aCons (mVar 0) (aCons (mVar 1) (aCons (mOp2 fAddA (mVar 2) (mTup (aCons (mVar 5) aNil))) aNil)))))) sNx)) (sRet (mVar 4))))))
def m_law_triesR : Nat → Fn
  | 0 => fun _ => none
  | n + 1 => m_law_triesB (m_law_triesR n)
def m_law_tries : Fn := m_law_triesR 8
theorem len_law_tries : ∀ (n : Nat) os r, m_law_triesR n os = some r → os.length = 3
  | 0, _, _, h => nomatch h
  | _ + 1, _, _, h => mFn0_len _ _ h
theorem nx_law_tries : ∀ (n : Nat) os c f os', m_law_triesR n os ≠ some (.ex c f, os')
  | 0, _, _, _, _ => nofun
  | _ + 1, _, _, _, _ => mFn0_noex _ _ _ _
theorem sc_law_tries : FnScope ["plain", "limit", "rooms", "at", "many", "room", "one"] ["plain", "limit", "rooms"] (defScope s_law_tries) := ⟨rfl, rfl, rfl, by decide +kernel, rfl, by decide +kernel, by decide +kernel⟩
theorem okR_law_tries (T : Txt P w K mg fn cl) : ∀ n : Nat, OkAt P w K mg base CX0 (1 + n) (fn 33) ["plain", "limit", "rooms"] (spF ⟨K, cl, w⟩ (m_law_triesR n) 3)
  | 0 => by
    obtain ⟨fd, F, B⟩ := T.d_law_tries.fu
    exact ⟨fd, fnok_none rfl, B, F.kp⟩
  | n + 1 => by
    have O_law_tries := okR_law_tries T n
    obtain ⟨fd, F, B⟩ := T.d_law_tries.fu
    refine ⟨fd, fn_ok0 F sc_law_tries rfl (by decide) fun cdv A outer s H E hr => ?_, B, F.kp⟩
    have sc := sc_law_tries
    have hr : Room (1 + n) _ := hr
    have O_law_are := ok_law_are (P := P) (w := w) (base := base) T
    have hu64 := hr.units
    have hu1 := hu_of hr
    exact ⟨_, (pss_cons (ps_set (i := 3) sc.nd rfl (Or.inr rfl) (pe_callB call_lens (by rfl) T.b_len (by decide +kernel) (pa_cons (pv 2) pa_nil)))
      (pss_cons (ps_if (pt_cmpR (op_eqD hu64) (pv 3) (pe_ix (ix_all hu1) (pv 0) pe_int (fun _ _ => rfl)) (nomark _)) (pss_one (ps_ret pe_int)) pss_nil)
      (pss_cons (ps_set (i := 4) sc.nd rfl (Or.inl rfl) pe_int)
      (pss_cons (ps_for PassesOwn.never rfl (pi_range1 (by rfl) T.b_range (pa_cons (pv 1) pa_nil)) (pg_name (i := 5) sc.nd rfl (Or.inr rfl)) (pss_one (ps_if (pt_not (pt_truthW (pe_callB (cr_any rfl) (by rfl) T.b_any (by decide +kernel) (pa_cons (pe_lc (own := [("one", 6)]) rfl sc.nd (pi_range1 (by rfl) T.b_range (pa_cons (pv 3) pa_nil)) (by show BlkOk ["plain", "limit", "rooms", "at", "many", "room", "one"] (defScope s_law_tries) _ _; exact ⟨rfl, by decide +kernel, by decide +kernel, by decide +kernel, by decide +kernel⟩) (fun _ _ _ _ _ => (pg_name (i := 6) sc.nd rfl (Or.inl rfl))) (fun _ _ _ _ _ => pts_nil) (fun _ _ _ _ _ => (pe_and (pe_cmpR (op_eqD hu64) (pe_ix (ix_all hu1) (pv 2) (pv 6) (fun _ _ => rfl)) (pv 5) (nomark _)) (pe_one (pe_callO O_law_are (hr.mono (by omega)) T.g_law_are (pa_cons (pv 0) (pa_cons (pv 6) (pa_cons (pv 3) pa_nil)))))))) pa_nil)) (fun _ => rfl))) (pss_one (ps_set (i := 4) sc.nd rfl (Or.inl rfl) (pe_op op_addA (pv 4) (pe_callO O_law_tries (hr.mono (by omega)) T.g_law_tries (pa_cons (pv 0) (pa_cons (pv 1) (pa_cons (pe_op op_addA (pv 2) (pe_tup (pa_cons (pv 5) pa_nil))) pa_nil))))))) pss_nil)))
      (pss_one (ps_ret (pv 4))))))),
      (semS_seq (semS_asgV (sem_cb (cs_or cs_len cs_lenD) (semA_cons sem_var semA_nil))) (semS_seq (semS_if (semT_test (sem_op os_eq sem_var (sem_op os_ixA sem_var sem_int))) (semS_ret sem_int) semS_nx) (semS_seq (semS_asgV sem_int) (semS_seq (semS_for (semI_range1 (E := E0) (semA_cons sem_var semA_nil)) g_name (semS_if (semT_not (semT_tru (sem_cb cs_any (semA_cons (sem_lc (E1 := E0) (E2 := E0) (semI_range1 (E := E0) (semA_cons sem_var semA_nil)) g_name semT_yes (sem_andV (sem_op os_eq (sem_op os_ixA sem_var sem_var) sem_var) (sem_call mFn0_len (semA_cons sem_var (semA_cons sem_var (semA_cons sem_var semA_nil))))) (by decide)) semA_nil)))) (semS_asgV (sem_op os_addA sem_var (sem_call (len_law_tries n) (semA_cons sem_var (semA_cons sem_var (semA_cons (sem_op os_addA sem_var (sem_tup (semA_cons sem_var semA_nil))) semA_nil)))))) semS_nx)) (semS_ret sem_var)))))⟩
theorem ok_law_tries (T : Txt P w K mg fn cl) : OkAt P w K mg base CX0 9 (fn 33) ["plain", "limit", "rooms"] (spF ⟨K, cl, w⟩ m_law_tries 3) := okR_law_tries T 8
def m_law_partsB (m_law_parts : Fn) : Fn := mFn0 3 7 (sSeq (sIf (mOp2 fEq (mVar 2) (mOp2 fIxA (mVar 0) (mC (.int (0))))) (sRet (mLst (aCons (mCB (fOr1 fLen fLenD) (aCons (mVar 1) aNil)) aNil))) sNx) (sSeq (sAsgV 3 (mCall m_law_parts (aCons (mVar 0) (aCons (mOp2 fAddA (mVar 1) (mLst (aCons (mLst (aCons (mVar 2) aNil)) aNil))) (aCons (mOp2 fAddA (mVar 2) (mC (.int (1)))) aNil))))) (sSeq (sFor (iEnu (aCons (mVar 1) aNil)) (.tu ((.nm 4) :: (.nm 5) :: [])) (sIf (mNot (mTru (mCB fAny (aCons (mLc (iWalkA (mVar 5)) [6] (.nm 6) mYes (mCall m_law_are (aCons (mVar 0) (aCons (mVar 6) (aCons (mVar 2) aNil))))) aNil)))) (sAsgV 3 (mOp2 fAddA (mVar 3) (mCall m_law_parts (aCons (mVar 0) (aCons (mOp2 fAddA (mOp2 fAddA (mSl (mVar 1) oNone (oPart (mVar 4))) (mLst (aCons (mOp2 fAddA (mVar 5) (mLst (aCons (mVar 2) aNil))) aNil))) (mSl (mVar 1) (oPart (mOp2 fAddA (mVar 4) (mC (.int (1))))) oNone)) (aCons (mOp2 fAddA (mVar 2) (mC (.int (1)))) aNil)))))) sNx)) (sRet (mVar 3)))))
def m_law_partsR : Nat → Fn
  | 0 => fun _ => none
  | n + 1 => m_law_partsB (m_law_partsR n)
def m_law_parts : Fn := m_law_partsR 8
theorem len_law_parts : ∀ (n : Nat) os r, m_law_partsR n os = some r → os.length = 3
  | 0, _, _, h => nomatch h
  | _ + 1, _, _, h => mFn0_len _ _ h
theorem nx_law_parts : ∀ (n : Nat) os c f os', m_law_partsR n os ≠ some (.ex c f, os')
  | 0, _, _, _, _ => nofun
  | _ + 1, _, _, _, _ => mFn0_noex _ _ _ _
theorem sc_law_parts : FnScope ["plain", "sets", "at", "found", "spot", "some", "one"] ["plain", "sets", "at"] (defScope s_law_parts) := ⟨rfl, rfl, rfl, by decide +kernel, rfl, by decide +kernel, by decide +kernel⟩
theorem okR_law_parts (T : Txt P w K mg fn cl) : ∀ n : Nat, OkAt P w K mg base CX0 (1 + n) (fn 34) ["plain", "sets", "at"] (spF ⟨K, cl, w⟩ (m_law_partsR n) 3)
  | 0 => by
    obtain ⟨fd, F, B⟩ := T.d_law_parts.fu
    exact ⟨fd, fnok_none rfl, B, F.kp⟩
  | n + 1 => by
    have O_law_parts := okR_law_parts T n
    obtain ⟨fd, F, B⟩ := T.d_law_parts.fu
    refine ⟨fd, fn_ok0 F sc_law_parts rfl (by decide) fun cdv A outer s H E hr => ?_, B, F.kp⟩
    have sc := sc_law_parts
    have hr : Room (1 + n) _ := hr
    have O_law_are := ok_law_are (P := P) (w := w) (base := base) T
    have hu64 := hr.units
    have hu1 := hu_of hr
    exact ⟨_, (pss_cons (ps_if (pt_cmpR (op_eqD hu64) (pv 2) (pe_ix (ix_all hu1) (pv 0) pe_int (fun _ _ => rfl)) (nomark _)) (pss_one (ps_ret (pe_lst (pa_cons (pe_callB call_lens (by rfl) T.b_len (by decide +kernel) (pa_cons (pv 1) pa_nil)) pa_nil)))) pss_nil)
      (pss_cons (ps_set (i := 3) sc.nd rfl (Or.inl rfl) (pe_callO O_law_parts (hr.mono (by omega)) T.g_law_parts (pa_cons (pv 0) (pa_cons (pe_op op_addA (pv 1) (pe_lst (pa_cons (pe_lst (pa_cons (pv 2) pa_nil)) pa_nil))) (pa_cons (pe_op op_addA (pv 2) pe_int) pa_nil)))))
      (pss_cons (ps_for PassesOwn.never rfl (pi_enumV (by rfl) T.b_enumerate (pa_cons (pv 1) pa_nil)) (pg_tup (n := 2) rfl (pgs_cons (pg_name (i := 4) sc.nd rfl (Or.inl rfl)) (pgs_cons (pg_name (i := 5) sc.nd rfl (Or.inl rfl)) pgs_nil))) (pss_one (ps_if (pt_not (pt_truthW (pe_callB (cr_any rfl) (by rfl) T.b_any (by decide +kernel) (pa_cons (pe_lc (own := [("one", 6)]) rfl sc.nd (pi_walkL (pv 5)) (by show BlkOk ["plain", "sets", "at", "found", "spot", "some", "one"] (defScope s_law_parts) _ _; exact ⟨rfl, by decide +kernel, by decide +kernel, by decide +kernel, by decide +kernel⟩) (fun _ _ _ _ _ => (pg_name (i := 6) sc.nd rfl (Or.inl rfl))) (fun _ _ _ _ _ => pts_nil) (fun _ _ _ _ _ => (pe_callO O_law_are (hr.mono (by omega)) T.g_law_are (pa_cons (pv 0) (pa_cons (pv 6) (pa_cons (pv 2) pa_nil)))))) pa_nil)) (fun _ => rfl))) (pss_one (ps_set (i := 3) sc.nd rfl (Or.inl rfl) (pe_op op_addA (pv 3) (pe_callO O_law_parts (hr.mono (by omega)) T.g_law_parts (pa_cons (pv 0) (pa_cons (pe_op op_addA (pe_op op_addA (pe_slice sl_any (pv 1) po_none (po_some (pv 4))) (pe_lst (pa_cons (pe_op op_addA (pv 5) (pe_lst (pa_cons (pv 2) pa_nil))) pa_nil))) (pe_slice sl_any (pv 1) (po_some (pe_op op_addA (pv 4) pe_int)) po_none)) (pa_cons (pe_op op_addA (pv 2) pe_int) pa_nil))))))) pss_nil)))
      (pss_one (ps_ret (pv 3)))))),
      (semS_seq (semS_if (semT_test (sem_op os_eq sem_var (sem_op os_ixA sem_var sem_int))) (semS_ret (sem_lst (semA_cons (sem_cb (cs_or cs_len cs_lenD) (semA_cons sem_var semA_nil)) semA_nil))) semS_nx) (semS_seq (semS_asgV (sem_call (len_law_parts n) (semA_cons sem_var (semA_cons (sem_op os_addA sem_var (sem_lst (semA_cons (sem_lst (semA_cons sem_var semA_nil)) semA_nil))) (semA_cons (sem_op os_addA sem_var sem_int) semA_nil))))) (semS_seq (semS_for (semI_enum (E := E0) (semA_cons sem_var semA_nil)) (g_tup (gs_cons g_name (gs_cons g_name gs_nil))) (semS_if (semT_not (semT_tru (sem_cb cs_any (semA_cons (sem_lc (E1 := E0) (E2 := E0) (semI_walkL (E := E0) sem_var) g_name semT_yes (sem_call mFn0_len (semA_cons sem_var (semA_cons sem_var (semA_cons sem_var semA_nil)))) (by decide)) semA_nil)))) (semS_asgV (sem_op os_addA sem_var (sem_call (len_law_parts n) (semA_cons sem_var (semA_cons (sem_op os_addA (sem_op os_addA (sem_sl sem_var semO_none (semO_part sem_var)) (sem_lst (semA_cons (sem_op os_addA sem_var (sem_lst (semA_cons sem_var semA_nil))) semA_nil))) (sem_sl sem_var (semO_part (sem_op os_addA sem_var sem_int)) semO_none)) (semA_cons (sem_op os_addA sem_var sem_int) semA_nil)))))) semS_nx)) (semS_ret sem_var))))⟩
theorem ok_law_parts (T : Txt P w K mg fn cl) : OkAt P w K mg base CX0 9 (fn 34) ["plain", "sets", "at"] (spF ⟨K, cl, w⟩ m_law_parts 3) := okR_law_parts T 8
def m_law_drawn_in : Fn := mFn0 4 10 (sSeq (sAsgO 4 mDNew) (sSeq (sFor (iWalkA (mVar 1)) (.tu ((.nm 5) :: (.nm 6) :: [])) (sSeq (sAsgO 7 (mLst aNil)) (sSeq (sFor (iWalkA (mTup (aCons (mVar 5) (aCons (mVar 6) aNil)))) (.nm 8) (sSeq (sAsgV 8 (mIf (mOp2 fEq (mVar 8) (mVar 3)) (mVar 2) (mVar 8))) (sDrop (mApp 7 (mIf (mAnd (mOp2 fEq (mVar 8) (mOp2 (fInt fun i j => i - j) (mVar 0) (mC (.int (1))))) (mOp2 fNe (mVar 3) (mOp2 (fInt fun i j => i - j) (mVar 0) (mC (.int (1)))))) (mVar 3) (mVar 8)))))) (sAPutM 4 (mTup (aCons (mCB fMin2 (aCons (mOpL fIxA 7 (mC (.int (0)))) (aCons (mOpL fIxA 7 (mC (.int (1)))) aNil))) (aCons (mCB fMax2 (aCons (mOpL fIxA 7 (mC (.int (0)))) (aCons (mOpL fIxA 7 (mC (.int (1)))) aNil))) aNil))) (mC (.int (1))))))) (sRet (mCB fSorts (aCons (mLc (iWalkA (mFz 4)) [9] (.nm 9) (mOp2 fNe (mOp2 fIxA (mVar 9) (mC (.int (0)))) (mOp2 fIxA (mVar 9) (mC (.int (1))))) (mVar 9)) aNil)))))
theorem sc_law_drawn_in : FnScope ["many", "pairs", "one", "other", "found", "first", "last", "ends", "end", "pair"] ["many", "pairs", "one", "other"] (defScope s_law_drawn_in) := ⟨rfl, rfl, rfl, by decide +kernel, rfl, by decide +kernel, by decide +kernel⟩
theorem okF_law_drawn_in (T : Txt P w K mg fn cl) {fd : FuncData} (F : L2.Fun K "_law_drawn_in" "_law_drawn_in" s_law_drawn_in (fn 35) fd) : FnOk P w K mg base CX0 1 (fn 35) fd ["many", "pairs", "one", "other"] (spF ⟨K, cl, w⟩ m_law_drawn_in 4) :=
  fn_ok0 F sc_law_drawn_in rfl (by decide) fun cdv A outer s H E hr => by
    have sc := sc_law_drawn_in
    have hu64 := hr.units
    have hu1 := hu_of hr
    have hu9 := hu9_of hr
    exact ⟨_, (pss_cons (ps_set (i := 4) sc.nd rfl (Or.inl rfl) pe_dnewK)
      (pss_cons (ps_for PassesOwn.never rfl (pi_walkL (pv 1)) (pg_tup (n := 2) rfl (pgs_cons (pg_name (i := 5) sc.nd rfl (Or.inl rfl)) (pgs_cons (pg_name (i := 6) sc.nd rfl (Or.inl rfl)) pgs_nil))) (pss_cons (ps_set (i := 7) sc.nd rfl (Or.inl rfl) (pe_lst pa_nil))
      (pss_cons (ps_for PassesOwn.never rfl (pi_walkL (pe_tup (pa_cons (pv 5) (pa_cons (pv 6) pa_nil)))) (pg_name (i := 8) sc.nd rfl (Or.inl rfl)) (pss_cons (ps_set (i := 8) sc.nd rfl (Or.inl rfl) (pe_ifExp (pt_cmpR (op_eqD hu64) (pv 8) (pv 3) (nomark _)) (pv 2) (pv 8)))
      (pss_one (ps_expr (pe_bm PySem.F.plainAttrs_list PySem.F.slot_list_append PySem.F.type_list_append mt_append (pv 7) (pa_cons (pe_ifExp (PW.pt (pw_and (pt_cmpR (op_eqD hu64) (pv 8) (pe_op op_sub (pv 0) pe_int) (nomark _)) (pw_and1 (pt_cmpR (op_neD hu64) (pv 3) (pe_op op_sub (pv 0) pe_int) (nomark _))))) (pv 3) (pv 8)) pa_nil))))))
      (pss_one (ps_aput hu1 hu9 (pv 4) (pe_tup (pa_cons (pe_callB (call_min2 rfl) (by rfl) T.b_min (by decide +kernel) (pa_cons (pe_ix (ix_all hu1) (pv 7) pe_int (fun _ _ => rfl)) (pa_cons (pe_ix (ix_all hu1) (pv 7) pe_int (fun _ _ => rfl)) pa_nil))) (pa_cons (pe_callB (call_max2 rfl) (by rfl) T.b_max (by decide +kernel) (pa_cons (pe_ix (ix_all hu1) (pv 7) pe_int (fun _ _ => rfl)) (pa_cons (pe_ix (ix_all hu1) (pv 7) pe_int (fun _ _ => rfl)) pa_nil))) pa_nil))) pe_int rfl)))))
      (pss_one (ps_ret (pe_callB call_sorts (by rfl) T.b_sorted (by decide +kernel) (pa_cons (pe_lc (own := [("pair", 9)]) rfl sc.nd (pi_walkL (pv 4)) (by show BlkOk ["many", "pairs", "one", "other", "found", "first", "last", "ends", "end", "pair"] (defScope s_law_drawn_in) _ _; exact ⟨rfl, by decide +kernel, by decide +kernel, by decide +kernel, by decide +kernel⟩) (fun _ _ _ _ _ => (pg_name (i := 9) sc.nd rfl (Or.inl rfl))) (fun _ _ _ _ _ => (pts_one (pt_cmpR (op_neD hu64) (pe_ix (ix_all hu1) (pv 9) pe_int (fun _ _ => rfl)) (pe_ix (ix_all hu1) (pv 9) pe_int (fun _ _ => rfl)) (nomark _)))) (fun _ _ _ _ _ => (pv 9))) pa_nil)))))),
      (semS_seq (semS_asgO sem_dnew) (semS_seq (semS_for (semI_walkL (E := E0) sem_var) (g_tup (gs_cons g_name (gs_cons g_name gs_nil))) (semS_seq (semS_asgO (sem_lst semA_nil)) (semS_seq (semS_for (semI_walkL (E := E0) (sem_tup (semA_cons sem_var (semA_cons sem_var semA_nil)))) g_name (semS_seq (semS_asgV (sem_if (semT_test (sem_op os_eq sem_var sem_var)) sem_var sem_var)) (semS_drop (sem_app (sem_if (semT_and (semT_test (sem_op os_eq sem_var (sem_op os_int sem_var sem_int))) (semT_test (sem_op os_ne sem_var (sem_op os_int sem_var sem_int)))) sem_var sem_var))))) (semS_aput (sem_tup (semA_cons (sem_cb cs_min2 (semA_cons (sem_opL os_ixA sem_int) (semA_cons (sem_opL os_ixA sem_int) semA_nil))) (semA_cons (sem_cb cs_max2 (semA_cons (sem_opL os_ixA sem_int) (semA_cons (sem_opL os_ixA sem_int) semA_nil))) semA_nil))) sem_int)))) (semS_ret (sem_cb cs_sorts (semA_cons (sem_lc (E1 := E0) (E2 := E0) (semI_walkL (E := E0) sem_fz) g_name (semT_test (sem_op os_ne (sem_op os_ixA sem_var sem_int) (sem_op os_ixA sem_var sem_int))) sem_var (by decide)) semA_nil)))))⟩
theorem ok_law_drawn_in (T : Txt P w K mg fn cl) : OkAt P w K mg base CX0 1 (fn 35) ["many", "pairs", "one", "other"] (spF ⟨K, cl, w⟩ m_law_drawn_in 4) := by
  obtain ⟨fd, F, B⟩ := T.d_law_drawn_in.fu
  exact ⟨fd, okF_law_drawn_in T F, B, F.kp⟩
def m_law_rowB (m_law_row : Fn) : Fn := mFn0 2 8 (sSeq (sIf (mOp2 fEq (mVar 1) (mLst aNil)) (sRet (mOp2 fAddA (mOp2 fMulA (mLst (aCons (mC (.int (0))) aNil)) (mVar 0)) (mLst (aCons (mC (.int (1))) aNil)))) sNx) (sSeq (sAsgP (.tu ((.nm 2) :: (.nm 3) :: [])) (mOp2 fIxA (mVar 1) (mUn fNeg (mC (.int (1)))))) (sSeq (sAsgP (.tu ((.nm 4) :: (.nm 5) :: [])) (mTup (aCons (mCall m_law_row (aCons (mVar 0) (aCons (mSl (mVar 1) oNone (oPart (mUn fNeg (mC (.int (1)))))) aNil))) (aCons (mCall m_law_row (aCons (mOp2 (fInt fun i j => i - j) (mVar 0) (mC (.int (1)))) (aCons (mCall m_law_drawn_in (aCons (mVar 0) (aCons (mSl (mVar 1) oNone (oPart (mUn fNeg (mC (.int (1)))))) (aCons (mVar 2) (aCons (mVar 3) aNil))))) aNil))) aNil)))) (sRet (mLc (iEnu (aCons (mVar 4) aNil)) [6, 7] (.tu ((.nm 6) :: (.nm 7) :: [])) mYes (mOp2 (fInt fun i j => i - j) (mVar 7) (mIf (mOp2 (fOr (fCmp fun i j => decide (i < j)) fLtT) (mVar 6) (mCB (fOr1 fLen fLenD) (aCons (mVar 5) aNil))) (mOp2 fIxA (mVar 5) (mVar 6)) (mC (.int (0))))))))))
def m_law_rowR : Nat → Fn
  | 0 => fun _ => none
  | n + 1 => m_law_rowB (m_law_rowR n)
def m_law_row : Fn := m_law_rowR 20
theorem len_law_row : ∀ (n : Nat) os r, m_law_rowR n os = some r → os.length = 2
  | 0, _, _, h => nomatch h
  | _ + 1, _, _, h => mFn0_len _ _ h
theorem nx_law_row : ∀ (n : Nat) os c f os', m_law_rowR n os ≠ some (.ex c f, os')
  | 0, _, _, _, _ => nofun
  | _ + 1, _, _, _, _ => mFn0_noex _ _ _ _
theorem sc_law_row : FnScope ["many", "pairs", "one", "other", "less", "more", "at", "left"] ["many", "pairs"] (defScope s_law_row) := ⟨rfl, rfl, rfl, by decide +kernel, rfl, by decide +kernel, by decide +kernel⟩
theorem okR_law_row (T : Txt P w K mg fn cl) : ∀ n : Nat, OkAt P w K mg base CX0 (1 + n) (fn 36) ["many", "pairs"] (spF ⟨K, cl, w⟩ (m_law_rowR n) 2)
  | 0 => by
    obtain ⟨fd, F, B⟩ := T.d_law_row.fu
    exact ⟨fd, fnok_none rfl, B, F.kp⟩
  | n + 1 => by
    have O_law_row := okR_law_row T n
    obtain ⟨fd, F, B⟩ := T.d_law_row.fu
    refine ⟨fd, fn_ok0 F sc_law_row rfl (by decide) fun cdv A outer s H E hr => ?_, B, F.kp⟩
    have sc := sc_law_row
    have hr : Room (1 + n) _ := hr
    have O_law_drawn_in := ok_law_drawn_in (P := P) (w := w) (base := base) T
    have hu64 := hr.units
    have hu1 := hu_of hr
    exact ⟨_, (pss_cons (ps_if (pt_cmpR (op_eqD hu64) (pv 1) (pe_lst pa_nil) (nomark _)) (pss_one (ps_ret (pe_op op_addA (pe_op op_mulA (pe_lst (pa_cons pe_int pa_nil)) (pv 0)) (pe_lst (pa_cons pe_int pa_nil))))) pss_nil)
      (pss_cons (ps_asg (pe_ix (ix_all hu1) (pv 1) (pe_un un_neg pe_int) (fun _ _ => rfl)) (pg_tup (n := 2) rfl (pgs_cons (pg_name (i := 2) sc.nd rfl (Or.inl rfl)) (pgs_cons (pg_name (i := 3) sc.nd rfl (Or.inl rfl)) pgs_nil))))
      (pss_cons (ps_asg (pe_tup (pa_cons (pe_callO O_law_row (hr.mono (by omega)) T.g_law_row (pa_cons (pv 0) (pa_cons (pe_slice sl_any (pv 1) po_none (po_some (pe_un un_neg pe_int))) pa_nil))) (pa_cons (pe_callO O_law_row (hr.mono (by omega)) T.g_law_row (pa_cons (pe_op op_sub (pv 0) pe_int) (pa_cons (pe_callO O_law_drawn_in (hr.mono (by omega)) T.g_law_drawn_in (pa_cons (pv 0) (pa_cons (pe_slice sl_any (pv 1) po_none (po_some (pe_un un_neg pe_int))) (pa_cons (pv 2) (pa_cons (pv 3) pa_nil))))) pa_nil))) pa_nil))) (pg_tup (n := 2) rfl (pgs_cons (pg_name (i := 4) sc.nd rfl (Or.inl rfl)) (pgs_cons (pg_name (i := 5) sc.nd rfl (Or.inr rfl)) pgs_nil))))
      (pss_one (ps_ret (pe_lc (own := [("at", 6), ("left", 7)]) rfl sc.nd (pi_enumV (by rfl) T.b_enumerate (pa_cons (pv 4) pa_nil)) (by show BlkOk ["many", "pairs", "one", "other", "less", "more", "at", "left"] (defScope s_law_row) _ _; exact ⟨rfl, by decide +kernel, by decide +kernel, by decide +kernel, by decide +kernel⟩) (fun _ _ _ _ _ => (pg_tup (n := 2) rfl (pgs_cons (pg_name (i := 6) sc.nd rfl (Or.inl rfl)) (pgs_cons (pg_name (i := 7) sc.nd rfl (Or.inl rfl)) pgs_nil)))) (fun _ _ _ _ _ => pts_nil) (fun _ _ _ _ _ => (pe_op op_sub (pv 7) (pe_ifExp (pt_cmpR (op_lt.or (op_ltT (Nat.lt_of_succ_lt hu1))) (pv 6) (pe_callB call_lens (by rfl) T.b_len (by decide +kernel) (pa_cons (pv 5) pa_nil)) (nomark _)) (pe_ix (ix_all hu1) (pv 5) (pv 6) (fun _ _ => rfl)) pe_int))))))))),
      (semS_seq (semS_if (semT_test (sem_op os_eq sem_var (sem_lst semA_nil))) (semS_ret (sem_op os_addA (sem_op os_mulA (sem_lst (semA_cons sem_int semA_nil)) sem_var) (sem_lst (semA_cons sem_int semA_nil)))) semS_nx) (semS_seq (semS_asgP (g_tup (gs_cons g_name (gs_cons g_name gs_nil))) (sem_op os_ixA sem_var (sem_neg sem_int))) (semS_seq (semS_asgP (g_tup (gs_cons g_name (gs_cons g_name gs_nil))) (sem_tup (semA_cons (sem_call (len_law_row n) (semA_cons sem_var (semA_cons (sem_sl sem_var semO_none (semO_part (sem_neg sem_int))) semA_nil))) (semA_cons (sem_call (len_law_row n) (semA_cons (sem_op os_int sem_var sem_int) (semA_cons (sem_call mFn0_len (semA_cons sem_var (semA_cons (sem_sl sem_var semO_none (semO_part (sem_neg sem_int))) (semA_cons sem_var (semA_cons sem_var semA_nil))))) semA_nil))) semA_nil)))) (semS_ret (sem_lc (E1 := E0) (E2 := E0) (semI_enum (E := E0) (semA_cons sem_var semA_nil)) (g_tup (gs_cons g_name (gs_cons g_name gs_nil))) semT_yes (sem_op os_int sem_var (sem_if (semT_test (sem_op (os_or os_cmp os_ltT) sem_var (sem_cb (cs_or cs_len cs_lenD) (semA_cons sem_var semA_nil)))) (sem_op os_ixA sem_var sem_var) sem_int)) (by decide))))))⟩
theorem ok_law_row (T : Txt P w K mg fn cl) : OkAt P w K mg base CX0 21 (fn 36) ["many", "pairs"] (spF ⟨K, cl, w⟩ m_law_row 2) := okR_law_row T 20
def m_Rivals___init__ : Fn := mFn 3 3 (sSeq (sIf (mNot (mTru (mCall m_is_integer (aCons (mVar 1) (aCons (mC (.int (1))) (aCons (mOp2 fAddA (mC (.int (8))) (mC (.int (1)))) aNil)))))) (sRaise 3 (aCons (mC (.str "many")) aNil)) sNx) (sSeq (sIf (mNot (mTru (mCall m_are_pairs (aCons (mVar 1) (aCons (mVar 2) aNil))))) (sRaise 3 (aCons (mC (.str "pairs")) aNil)) sNx) (sSeq (sFldM [5] "many" 0 (mVar 1)) (sFldM [5] "pairs" 0 (mVar 2)))))
theorem sc_Rivals___init__ : FnScope ["self", "many", "pairs"] ["self", "many", "pairs"] (defScope s_Rivals___init__) := ⟨rfl, rfl, rfl, by decide +kernel, rfl, by decide +kernel, by decide +kernel⟩
theorem ok_Rivals___init__ (T : Txt P w K mg fn cl) {fd : FuncData} (F : FunV K "__init__" "Rivals.__init__" s_Rivals___init__ (fn 7) fd) : FnOk P w K mg base (L2.CX P w) 7 (fn 7) fd ["self", "many", "pairs"] (spF ⟨K, cl, w⟩ m_Rivals___init__ 3) :=
  okxV F sc_Rivals___init__ rfl (by decide) fun cdv A outer s H E hr => by
    obtain ⟨fI_BadRivals, fd_BadRivals, X_BadRivals, B_BadRivals, G_BadRivals⟩ := T.x_BadRivals
    have sc := sc_Rivals___init__
    have O_are_pairs := ok_are_pairs (P := P) (w := w) (base := base) T
    have O_is_integer := ok_is_integer (P := P) (w := w) (base := base) T
    exact ⟨_, (pss_cons (ps_if (pt_not (pt_truthW (pe_callO O_is_integer (hr.mono (by decide)) T.g_is_integer (pa_cons (pv 1) (pa_cons pe_int (pa_cons (pe_op op_addA (pe_k T.k_MOST_RIVALS) pe_int) pa_nil)))) (fun _ => rfl))) (pss_one (ps_raiseBad rfl (takes_of rfl rfl rfl rfl) X_BadRivals B_BadRivals hr G_BadRivals (pa_cons pe_str pa_nil))) pss_nil)
      (pss_cons (ps_if (pt_not (pt_truthW (pe_callO O_are_pairs (hr.mono (by decide)) T.g_are_pairs (pa_cons (pv 1) (pa_cons (pv 2) pa_nil))) (fun _ => rfl))) (pss_one (ps_raiseBad rfl (takes_of rfl rfl rfl rfl) X_BadRivals B_BadRivals hr G_BadRivals (pa_cons pe_str pa_nil))) pss_nil)
      (pss_cons (ps_fld (pv 0) (pv 1) rfl)
      (pss_one (ps_fld (pv 0) (pv 2) rfl))))),
      (semS_seq (semS_if (semT_not (semT_tru (sem_callE (.inr mFn0_noex) mFn0_len (semA_cons sem_var (semA_cons sem_int (semA_cons (sem_op os_addA sem_int sem_int) semA_nil)))))) (semS_raise (c := 3) (semA_cons sem_str semA_nil)) semS_nx) (semS_seq (semS_if (semT_not (semT_tru (sem_callE (.inr mFn0_noex) mFn0_len (semA_cons sem_var (semA_cons sem_var semA_nil))))) (semS_raise (c := 3) (semA_cons sem_str semA_nil)) semS_nx) (semS_seq (semS_fld T.h_many sem_var) (semS_fld T.h_pairs sem_var))))⟩
def m_partings : Fn := mFn0 1 3 (sSeq (sDrop (mCall m_check_rivals (aCons (mVar 0) aNil))) (sSeq (sAsgO 1 (mOp2 fMulA (mLst (aCons (mC (.int (0))) aNil)) (mOp2 fAddA (mFld [5] "many" (mVar 0)) (mC (.int (1)))))) (sSeq (sFor (iWalkA (mCall m_all_partings (aCons (mVar 0) aNil))) (.nm 2) (sAugL 1 (fun i j => i + j) (mOp2 fAddA (mCB (fBest true) (aCons (mVar 2) aNil)) (mC (.int (1)))) (mC (.int (1))))) (sRet (mMv 1)))))
theorem sc_partings : FnScope ["rivals", "counts", "rooms"] ["rivals"] (defScope s_partings) := ⟨rfl, rfl, rfl, by decide +kernel, rfl, by decide +kernel, by decide +kernel⟩
theorem okF_partings (T : Txt P w K mg fn cl) {fd : FuncData} (F : L2.Fun K "partings" "partings" s_partings (fn 21) fd) : FnOk P w K mg base CX0 7 (fn 21) fd ["rivals"] (spF ⟨K, cl, w⟩ m_partings 1) :=
  fn_ok0 F sc_partings rfl (by decide) fun cdv A outer s H E hr => by
    have sc := sc_partings
    have O_all_partings := ok_all_partings (P := P) (w := w) (base := base) T
    have O_check_rivals := okr_check_rivals (P := P) (w := w) (base := base) T
    have hu64 := hr.units
    exact ⟨_, (pss_cons (ps_expr (pe_callX O_check_rivals passL (hr.mono (by decide)) T.g_check_rivals (pa_cons (pv 0) pa_nil)))
      (pss_cons (ps_set (i := 1) sc.nd rfl (Or.inl rfl) (pe_op op_mulA (pe_lst (pa_cons pe_int pa_nil)) (pe_op op_addA (pe_fld (pv 0) rfl) pe_int)))
      (pss_cons (ps_for PassesOwn.never rfl (pi_walkL (pe_callO O_all_partings (hr.mono (by decide)) T.g_all_partings (pa_cons (pv 0) pa_nil))) (pg_name (i := 2) sc.nd rfl (Or.inl rfl)) (pss_one (ps_augS (pv 1) (pe_op op_addA (pe_callB (cr_best (mx := true) rfl hu64) (by rfl) T.b_max (by decide +kernel) (pa_cons (pv 2) pa_nil)) pe_int) get_list pe_int ip_add set_list)))
      (pss_one (ps_ret (pv 1)))))),
      (semS_seq (semS_drop (sem_call mFn_len (semA_cons sem_var semA_nil))) (semS_seq (semS_asgO (sem_op os_mulA (sem_lst (semA_cons sem_int semA_nil)) (sem_op os_addA (sem_fld T.h_many sem_var) sem_int))) (semS_seq (semS_for (semI_walkL (E := E0) (sem_call mFn0_len (semA_cons sem_var semA_nil))) g_name (semS_augL (g := fun i j => i + j) (sem_op os_addA (sem_cb (cs_best (mx := true)) (semA_cons sem_var semA_nil)) sem_int) sem_int)) (semS_ret sem_mv))))⟩
theorem ok_partings (T : Txt P w K mg fn cl) : OkAt P w K mg base CX0 7 (fn 21) ["rivals"] (spF ⟨K, cl, w⟩ m_partings 1) := by
  obtain ⟨fd, F, B⟩ := T.d_partings.fu
  exact ⟨fd, okF_partings T F, B, F.kp⟩
def m_polynomial : Fn := mFn0 1 10 (sSeq (sAsgV 1 (mCall m_partings (aCons (mVar 0) aNil))) (sSeq (sAsgV 2 (mOp2 fMulA (mLst (aCons (mC (.int (0))) aNil)) (mCB (fOr1 fLen fLenD) (aCons (mVar 1) aNil)))) (sSeq (sAsgV 3 (mOp2 fAddA (mLst (aCons (mC (.int (1))) aNil)) (mOp2 fMulA (mLst (aCons (mC (.int (0))) aNil)) (mFld [5] "many" (mVar 0))))) (sSeq (sFor (iEnu (aCons (mVar 1) aNil)) (.tu ((.nm 4) :: (.nm 5) :: [])) (sSeq (sAsgV 2 (mLc (iZip (aCons (mVar 2) (aCons (mVar 3) aNil))) [6, 7] (.tu ((.nm 6) :: (.nm 7) :: [])) mYes (mOp2 fAddA (mVar 6) (mOp2 fMulA (mVar 5) (mVar 7))))) (sAsgV 3 (mLc (iZip (aCons (mOp2 fAddA (mLst (aCons (mC (.int (0))) aNil)) (mVar 3)) (aCons (mVar 3) aNil))) [8, 9] (.tu ((.nm 8) :: (.nm 9) :: [])) mYes (mOp2 (fInt fun i j => i - j) (mVar 8) (mOp2 fMulA (mVar 4) (mVar 9))))))) (sRet (mVar 2))))))
theorem sc_polynomial : FnScope ["rivals", "counts", "total", "product", "sets", "count", "one", "other", "above", "same"] ["rivals"] (defScope s_polynomial) := ⟨rfl, rfl, rfl, by decide +kernel, rfl, by decide +kernel, by decide +kernel⟩
theorem okF_polynomial (T : Txt P w K mg fn cl) {fd : FuncData} (F : L2.Fun K "polynomial" "polynomial" s_polynomial (fn 22) fd) : FnOk P w K mg base CX0 8 (fn 22) fd ["rivals"] (spF ⟨K, cl, w⟩ m_polynomial 1) :=
  fn_ok0 F sc_polynomial rfl (by decide) fun cdv A outer s H E hr => by
    have sc := sc_polynomial
    have O_partings := ok_partings (P := P) (w := w) (base := base) T
    exact ⟨_, (pss_cons (ps_set (i := 1) sc.nd rfl (Or.inl rfl) (pe_callO O_partings (hr.mono (by decide)) T.g_partings (pa_cons (pv 0) pa_nil)))
      (pss_cons (ps_set (i := 2) sc.nd rfl (Or.inl rfl) (pe_op op_mulA (pe_lst (pa_cons pe_int pa_nil)) (pe_callB call_lens (by rfl) T.b_len (by decide +kernel) (pa_cons (pv 1) pa_nil))))
      (pss_cons (ps_set (i := 3) sc.nd rfl (Or.inl rfl) (pe_op op_addA (pe_lst (pa_cons pe_int pa_nil)) (pe_op op_mulA (pe_lst (pa_cons pe_int pa_nil)) (pe_fld (pv 0) rfl))))
      (pss_cons (ps_for PassesOwn.never rfl (pi_enumV (by rfl) T.b_enumerate (pa_cons (pv 1) pa_nil)) (pg_tup (n := 2) rfl (pgs_cons (pg_name (i := 4) sc.nd rfl (Or.inr rfl)) (pgs_cons (pg_name (i := 5) sc.nd rfl (Or.inr rfl)) pgs_nil))) (pss_cons (ps_setLc (i := 2) (own := [("one", 6), ("other", 7)]) rfl sc.nd rfl rfl (by rfl) (pi_zipV (by rfl) T.b_zip (pa_cons (pv 2) (pa_cons (pv 3) pa_nil))) (by show BlkOk ["rivals", "counts", "total", "product", "sets", "count", "one", "other", "above", "same"] (defScope s_polynomial) _ _; exact ⟨rfl, by decide +kernel, by decide +kernel, by decide +kernel, by decide +kernel⟩) (fun _ _ _ _ _ => (pg_tup (n := 2) rfl (pgs_cons (pg_name (i := 6) sc.nd rfl (Or.inl rfl)) (pgs_cons (pg_name (i := 7) sc.nd rfl (Or.inl rfl)) pgs_nil)))) (fun _ _ _ _ _ => pts_nil) (fun _ _ _ _ _ => (pe_op op_addA (pv 6) (pe_op op_mulA (pv 5) (pv 7)))))
      (pss_one (ps_setLc (i := 3) (own := [("above", 8), ("same", 9)]) rfl sc.nd rfl rfl (by rfl) (pi_zipV (by rfl) T.b_zip (pa_cons (pe_op op_addA (pe_lst (pa_cons pe_int pa_nil)) (pv 3)) (pa_cons (pv 3) pa_nil))) (by show BlkOk ["rivals", "counts", "total", "product", "sets", "count", "one", "other", "above", "same"] (defScope s_polynomial) _ _; exact ⟨rfl, by decide +kernel, by decide +kernel, by decide +kernel, by decide +kernel⟩) (fun _ _ _ _ _ => (pg_tup (n := 2) rfl (pgs_cons (pg_name (i := 8) sc.nd rfl (Or.inl rfl)) (pgs_cons (pg_name (i := 9) sc.nd rfl (Or.inl rfl)) pgs_nil)))) (fun _ _ _ _ _ => pts_nil) (fun _ _ _ _ _ => (pe_op op_sub (pv 8) (pe_op op_mulA (pv 4) (pv 9))))))))
      (pss_one (ps_ret (pv 2))))))),
      (semS_seq (semS_asgV (sem_call mFn0_len (semA_cons sem_var semA_nil))) (semS_seq (semS_asgV (sem_op os_mulA (sem_lst (semA_cons sem_int semA_nil)) (sem_cb (cs_or cs_len cs_lenD) (semA_cons sem_var semA_nil)))) (semS_seq (semS_asgV (sem_op os_addA (sem_lst (semA_cons sem_int semA_nil)) (sem_op os_mulA (sem_lst (semA_cons sem_int semA_nil)) (sem_fld T.h_many sem_var)))) (semS_seq (semS_for (semI_enum (E := E0) (semA_cons sem_var semA_nil)) (g_tup (gs_cons g_name (gs_cons g_name gs_nil))) (semS_seq (semS_asgV (sem_lc (E1 := E0) (E2 := E0) (semI_zip (E := E0) (semA_cons sem_var (semA_cons sem_var semA_nil))) (g_tup (gs_cons g_name (gs_cons g_name gs_nil))) semT_yes (sem_op os_addA sem_var (sem_op os_mulA sem_var sem_var)) (by decide))) (semS_asgV (sem_lc (E1 := E0) (E2 := E0) (semI_zip (E := E0) (semA_cons (sem_op os_addA (sem_lst (semA_cons sem_int semA_nil)) sem_var) (semA_cons sem_var semA_nil))) (g_tup (gs_cons g_name (gs_cons g_name gs_nil))) semT_yes (sem_op os_int sem_var (sem_op os_mulA sem_var sem_var)) (by decide))))) (semS_ret sem_var)))))⟩
theorem ok_polynomial (T : Txt P w K mg fn cl) : OkAt P w K mg base CX0 8 (fn 22) ["rivals"] (spF ⟨K, cl, w⟩ m_polynomial 1) := by
  obtain ⟨fd, F, B⟩ := T.d_polynomial.fu
  exact ⟨fd, okF_polynomial T F, B, F.kp⟩
def m_ways : Fn := mFn0 2 4 (sSeq (sDrop (mCall m_check_rivals (aCons (mVar 0) aNil))) (sSeq (sDrop (mCall m_check_limit (aCons (mVar 1) (aCons (mC (.int (0))) (aCons (mC (.int (20))) aNil))))) (sRet (mCB fSum (aCons (mLc (iEnu (aCons (mCall m_partings (aCons (mVar 0) aNil)) aNil)) [2, 3] (.tu ((.nm 2) :: (.nm 3) :: [])) mYes (mOp2 fMulA (mVar 3) (mCall m_choices (aCons (mVar 1) (aCons (mVar 2) aNil))))) aNil)))))
theorem sc_ways : FnScope ["rivals", "limit", "sets", "count"] ["rivals", "limit"] (defScope s_ways) := ⟨rfl, rfl, rfl, by decide +kernel, rfl, by decide +kernel, by decide +kernel⟩
theorem okF_ways (T : Txt P w K mg fn cl) {fd : FuncData} (F : L2.Fun K "ways" "ways" s_ways (fn 23) fd) : FnOk P w K mg base CX0 8 (fn 23) fd ["rivals", "limit"] (spF ⟨K, cl, w⟩ m_ways 2) :=
  fn_ok0 F sc_ways rfl (by decide) fun cdv A outer s H E hr => by
    have sc := sc_ways
    have O_check_limit := ok_check_limit (P := P) (w := w) (base := base) T
    have O_check_rivals := okr_check_rivals (P := P) (w := w) (base := base) T
    have O_choices := ok_choices (P := P) (w := w) (base := base) T
    have O_partings := ok_partings (P := P) (w := w) (base := base) T
    exact ⟨_, (pss_cons (ps_expr (pe_callX O_check_rivals passL (hr.mono (by decide)) T.g_check_rivals (pa_cons (pv 0) pa_nil)))
      (pss_cons (ps_expr (pe_callO O_check_limit (hr.mono (by decide)) T.g_check_limit (pa_cons (pv 1) (pa_cons pe_int (pa_cons (pe_k T.k_MOST_ROOMS) pa_nil)))))
      (pss_one (ps_ret (pe_callB (cr_sum rfl) (by rfl) T.b_sum (by decide +kernel) (pa_cons (pe_lc (own := [("sets", 2), ("count", 3)]) rfl sc.nd (pi_enumV (by rfl) T.b_enumerate (pa_cons (pe_callO O_partings (hr.mono (by decide)) T.g_partings (pa_cons (pv 0) pa_nil)) pa_nil)) (by show BlkOk ["rivals", "limit", "sets", "count"] (defScope s_ways) _ _; exact ⟨rfl, by decide +kernel, by decide +kernel, by decide +kernel, by decide +kernel⟩) (fun _ _ _ _ _ => (pg_tup (n := 2) rfl (pgs_cons (pg_name (i := 2) sc.nd rfl (Or.inl rfl)) (pgs_cons (pg_name (i := 3) sc.nd rfl (Or.inl rfl)) pgs_nil)))) (fun _ _ _ _ _ => pts_nil) (fun _ _ _ _ _ => (pe_op op_mulA (pv 3) (pe_callO O_choices (hr.mono (by decide)) T.g_choices (pa_cons (pv 1) (pa_cons (pv 2) pa_nil)))))) pa_nil)))))),
      (semS_seq (semS_drop (sem_call mFn_len (semA_cons sem_var semA_nil))) (semS_seq (semS_drop (sem_call mFn0_len (semA_cons sem_var (semA_cons sem_int (semA_cons sem_int semA_nil))))) (semS_ret (sem_cb cs_sum (semA_cons (sem_lc (E1 := E0) (E2 := E0) (semI_enum (E := E0) (semA_cons (sem_call mFn0_len (semA_cons sem_var semA_nil)) semA_nil)) (g_tup (gs_cons g_name (gs_cons g_name gs_nil))) semT_yes (sem_op os_mulA sem_var (sem_call mFn0_len (semA_cons sem_var (semA_cons sem_var semA_nil)))) (by decide)) semA_nil)))))⟩
theorem ok_ways (T : Txt P w K mg fn cl) : OkAt P w K mg base CX0 8 (fn 23) ["rivals", "limit"] (spF ⟨K, cl, w⟩ m_ways 2) := by
  obtain ⟨fd, F, B⟩ := T.d_ways.fu
  exact ⟨fd, okF_ways T F, B, F.kp⟩
def m_law : Fn := mFn0 1 12 (sSeq (sAsgO 1 (mLst (aCons (mSl (mVar 0) oNone (oPart (mC (.int (63))))) (aCons (mC (.int (0))) (aCons (mC (.int (0))) aNil))))) (sSeq (sFor (iRange1 (aCons (mC (.int (2))) aNil)) (.nm 2) (sSeq (sAsgV 3 (mCall m_law_rivals (aSl 1 (aCons (mC (.int (6))) aNil)))) (sSeq (sAsgP (.tu ((.nm 4) :: (.nm 5) :: [])) (mTup (aCons (mMake 5 m_Rivals___init__ (aCons (mOp2 fIxA (mVar 3) (mC (.int (0)))) (aCons (mOp2 fIxA (mVar 3) (mC (.int (1)))) aNil)) aNil (fun ds zs => ds ++ zs) 2 0) (aCons (mCall m_law_parts (aCons (mVar 3) (aCons (mLst aNil) (aCons (mC (.int (0))) aNil)))) aNil)))) (sSeq (sIf (mOp2 fNe (mCall m_partings (aCons (mVar 4) aNil)) (mLc (iRange1 (aCons (mOp2 fAddA (mOp2 fIxA (mVar 3) (mC (.int (0)))) (mC (.int (1)))) aNil)) [11] (.nm 11) mYes (mCnt (mVar 5) (mVar 11)))) (sRet (mC (.bl false))) sNx) (sSeq (sAsgV 6 (mCall m_law_row (aCons (mOp2 fIxA (mVar 3) (mC (.int (0)))) (aCons (mCB (fOr1 fList fListD) (aCons (mOp2 fIxA (mVar 3) (mC (.int (1)))) aNil)) aNil)))) (sSeq (sIf (mOp2 fNe (mCall m_polynomial (aCons (mVar 4) aNil)) (mVar 6)) (sRet (mC (.bl false))) sNx) (sSeq (sFor (iRange1 (aCons (mC (.int (4))) aNil)) (.nm 7) (sIf (mOp2 fNe (mCall m_ways (aCons (mVar 4) (aCons (mVar 7) aNil))) (mCall m_law_tries (aCons (mVar 3) (aCons (mVar 7) (aCons (mTup aNil) aNil))))) (sRet (mC (.bl false))) sNx)) (sFor (iWalkA (mTup (aCons (mC (.int (7))) (aCons (mC (.int (20))) aNil)))) (.nm 7) (sSeq (sAsgP (.tu ((.nm 8) :: (.nm 9) :: [])) (mTup (aCons (mC (.int (0))) (aCons (mC (.int (1))) aNil)))) (sSeq (sFor (iWalkA (mVar 6)) (.nm 10) (sPar 8 9 (aCons (mOp2 fAddA (mVar 8) (mOp2 fMulA (mVar 10) (mVar 9))) (aCons (mOp2 fMulA (mVar 9) (mVar 7)) aNil)))) (sIf (mOp2 fNe (mCall m_ways (aCons (mVar 4) (aCons (mVar 7) aNil))) (mVar 8)) (sRet (mC (.bl false))) sNx))))))))))) (sRet (mC (.bl true)))))
theorem sc_law : FnScope ["script", "draw", "again", "plain", "made", "sizes", "row", "limit", "value", "power", "one", "size"] ["script"] (defScope s_law) := ⟨rfl, rfl, rfl, by decide +kernel, rfl, by decide +kernel, by decide +kernel⟩
theorem okF_law (T : Txt P w K mg fn cl) {fd : FuncData} (F : L2.Fun K "law" "law" s_law (fn 37) fd) : FnOk P w K mg base CX0 22 (fn 37) fd ["script"] (spF ⟨K, cl, w⟩ m_law 1) :=
  fn_ok0 F sc_law rfl (by decide) fun cdv A outer s H E hr => by
    have sc := sc_law
    obtain ⟨fdI_Rivals, F_Rivals, M_Rivals, G_Rivals, ⟨g1_Rivals, KB_Rivals_all⟩, ⟨g2_Rivals, KB_Rivals_none⟩⟩ := T.i_Rivals
    have OX_Rivals := ok_Rivals___init__ (P := P) (w := w) (base := base) T F_Rivals
    have O_law_parts := ok_law_parts (P := P) (w := w) (base := base) T
    have O_law_rivals := ok_law_rivals (P := P) (w := w) (base := base) T
    have O_law_row := ok_law_row (P := P) (w := w) (base := base) T
    have O_law_tries := ok_law_tries (P := P) (w := w) (base := base) T
    have O_partings := ok_partings (P := P) (w := w) (base := base) T
    have O_polynomial := ok_polynomial (P := P) (w := w) (base := base) T
    have O_ways := ok_ways (P := P) (w := w) (base := base) T
    have hu64 := hr.units
    have hu1 := hu_of hr
    exact ⟨_, (pss_cons (ps_set (i := 1) sc.nd rfl (Or.inl rfl) (pe_lst (pa_cons (pe_slice sl_any (pv 0) po_none (po_some pe_int)) (pa_cons pe_int (pa_cons pe_int pa_nil)))))
      (pss_cons (ps_for PassesOwn.never rfl (pi_range1 (by rfl) T.b_range (pa_cons pe_int pa_nil)) (pg_name (i := 2) sc.nd rfl (Or.inl rfl)) (pss_cons (ps_set (i := 3) sc.nd rfl (Or.inl rfl) (pe_callO O_law_rivals (hr.mono (by decide)) T.g_law_rivals (pa_cons (pv 1) (pa_cons pe_int pa_nil))))
      (pss_cons (ps_asg (pe_tup (pa_cons (pe_makeK M_Rivals OX_Rivals (hr.mono (by decide)) (by rfl) G_Rivals KB_Rivals_all passL (pa_cons (pe_ix (ix_all hu1) (pv 3) pe_int (fun _ _ => rfl)) (pa_cons (pe_ix (ix_all hu1) (pv 3) pe_int (fun _ _ => rfl)) pa_nil)) pk_nil) (pa_cons (pe_callO O_law_parts (hr.mono (by decide)) T.g_law_parts (pa_cons (pv 3) (pa_cons (pe_lst pa_nil) (pa_cons pe_int pa_nil)))) pa_nil))) (pg_tup (n := 2) rfl (pgs_cons (pg_name (i := 4) sc.nd rfl (Or.inl rfl)) (pgs_cons (pg_name (i := 5) sc.nd rfl (Or.inr rfl)) pgs_nil))))
      (pss_cons (ps_if (pt_cmpR (op_neD hu64) (pe_callO O_partings (hr.mono (by decide)) T.g_partings (pa_cons (pv 4) pa_nil)) (pe_lc (own := [("size", 11)]) rfl sc.nd (pi_range1 (by rfl) T.b_range (pa_cons (pe_op op_addA (pe_ix (ix_all hu1) (pv 3) pe_int (fun _ _ => rfl)) pe_int) pa_nil)) (by show BlkOk ["script", "draw", "again", "plain", "made", "sizes", "row", "limit", "value", "power", "one", "size"] (defScope s_law) _ _; exact ⟨rfl, by decide +kernel, by decide +kernel, by decide +kernel, by decide +kernel⟩) (fun _ _ _ _ _ => (pg_name (i := 11) sc.nd rfl (Or.inl rfl))) (fun _ _ _ _ _ => pts_nil) (fun _ _ _ _ _ => (pe_bm PySem.F.plainAttrs_list PySem.F.slot_list_count PySem.F.type_list_count mt_lcount (pv 5) (pa_cons (pv 11) pa_nil)))) (nomark _)) (pss_one (ps_ret pe_bl)) pss_nil)
      (pss_cons (ps_set (i := 6) sc.nd rfl (Or.inl rfl) (pe_callO O_law_row (hr.mono (by decide)) T.g_law_row (pa_cons (pe_ix (ix_all hu1) (pv 3) pe_int (fun _ _ => rfl)) (pa_cons (pe_callTy (call_lists rfl) (by rfl) T.b_list (by decide +kernel) (pa_cons (pe_ix (ix_all hu1) (pv 3) pe_int (fun _ _ => rfl)) pa_nil)) pa_nil))))
      (pss_cons (ps_if (pt_cmpR (op_neD hu64) (pe_callO O_polynomial (hr.mono (by decide)) T.g_polynomial (pa_cons (pv 4) pa_nil)) (pv 6) (nomark _)) (pss_one (ps_ret pe_bl)) pss_nil)
      (pss_cons (ps_for PassesOwn.never rfl (pi_range1 (by rfl) T.b_range (pa_cons pe_int pa_nil)) (pg_name (i := 7) sc.nd rfl (Or.inl rfl)) (pss_one (ps_if (pt_cmpR (op_neD hu64) (pe_callO O_ways (hr.mono (by decide)) T.g_ways (pa_cons (pv 4) (pa_cons (pv 7) pa_nil))) (pe_callO O_law_tries (hr.mono (by decide)) T.g_law_tries (pa_cons (pv 3) (pa_cons (pv 7) (pa_cons (pe_tup pa_nil) pa_nil)))) (nomark _)) (pss_one (ps_ret pe_bl)) pss_nil)))
      (pss_one (ps_for PassesOwn.never rfl (pi_walkL (pe_tup (pa_cons pe_int (pa_cons pe_int pa_nil)))) (pg_name (i := 7) sc.nd rfl (Or.inl rfl)) (pss_cons (ps_asg (pe_tup (pa_cons pe_int (pa_cons pe_int pa_nil))) (pg_tup (n := 2) rfl (pgs_cons (pg_name (i := 8) sc.nd rfl (Or.inl rfl)) (pgs_cons (pg_name (i := 9) sc.nd rfl (Or.inl rfl)) pgs_nil))))
      (pss_cons (ps_for PassesOwn.never rfl (pi_walkL (pv 6)) (pg_name (i := 10) sc.nd rfl (Or.inl rfl)) (pss_one (ps_par (i := 8) (j := 9) rfl sc.nd rfl rfl (by decide) rfl rfl (pa_cons (pe_op op_addA (pv 8) (pe_op op_mulA (pv 10) (pv 9))) (pa_cons (pe_op op_mulA (pv 9) (pv 7)) pa_nil)) (by rfl))))
      (pss_one (ps_if (pt_cmpR (op_neD hu64) (pe_callO O_ways (hr.mono (by decide)) T.g_ways (pa_cons (pv 4) (pa_cons (pv 7) pa_nil))) (pv 8) (nomark _)) (pss_one (ps_ret pe_bl)) pss_nil)))))))))))))
      (pss_one (ps_ret pe_bl)))),
      (semS_seq (semS_asgO (sem_lst (semA_cons (sem_sl sem_var semO_none (semO_part sem_int)) (semA_cons sem_int (semA_cons sem_int semA_nil))))) (semS_seq (semS_for (semI_range1 (E := E0) (semA_cons sem_int semA_nil)) g_name (semS_seq (semS_asgV (sem_call mFn0_len (semA_sl (semA_cons sem_int semA_nil)))) (semS_seq (semS_asgP (g_tup (gs_cons g_name (gs_cons g_name gs_nil))) (sem_tup (semA_cons (sem_makeK (c := 5) mFn_len (fun _ _ _ _ _ => rfl) (fun _ _ r1 r2 => r1.append r2) (semA_cons (sem_op os_ixA sem_var sem_int) (semA_cons (sem_op os_ixA sem_var sem_int) semA_nil)) semA_nil) (semA_cons (sem_callE (.inr (nx_law_parts _)) (len_law_parts _) (semA_cons sem_var (semA_cons (sem_lst semA_nil) (semA_cons sem_int semA_nil)))) semA_nil)))) (semS_seq (semS_if (semT_test (sem_op os_ne (sem_call mFn0_len (semA_cons sem_var semA_nil)) (sem_lc (E1 := E0) (E2 := E0) (semI_range1 (E := E0) (semA_cons (sem_op os_addA (sem_op os_ixA sem_var sem_int) sem_int) semA_nil)) g_name semT_yes (sem_cnt sem_var sem_var) (by decide)))) (semS_ret sem_bl) semS_nx) (semS_seq (semS_asgV (sem_callE (.inr (nx_law_row _)) (len_law_row _) (semA_cons (sem_op os_ixA sem_var sem_int) (semA_cons (sem_cb (cs_or cs_list cs_listD) (semA_cons (sem_op os_ixA sem_var sem_int) semA_nil)) semA_nil)))) (semS_seq (semS_if (semT_test (sem_op os_ne (sem_call mFn0_len (semA_cons sem_var semA_nil)) sem_var)) (semS_ret sem_bl) semS_nx) (semS_seq (semS_for (semI_range1 (E := E0) (semA_cons sem_int semA_nil)) g_name (semS_if (semT_test (sem_op os_ne (sem_call mFn0_len (semA_cons sem_var (semA_cons sem_var semA_nil))) (sem_callE (.inr (nx_law_tries _)) (len_law_tries _) (semA_cons sem_var (semA_cons sem_var (semA_cons (sem_tup semA_nil) semA_nil)))))) (semS_ret sem_bl) semS_nx)) (semS_for (semI_walkL (E := E0) (sem_tup (semA_cons sem_int (semA_cons sem_int semA_nil)))) g_name (semS_seq (semS_asgP (g_tup (gs_cons g_name (gs_cons g_name gs_nil))) (sem_tup (semA_cons sem_int (semA_cons sem_int semA_nil)))) (semS_seq (semS_for (semI_walkL (E := E0) sem_var) g_name (semS_par (i := 8) (j := 9) (semA_cons (sem_op os_addA sem_var (sem_op os_mulA sem_var sem_var)) (semA_cons (sem_op os_mulA sem_var sem_var) semA_nil)))) (semS_if (semT_test (sem_op os_ne (sem_call mFn0_len (semA_cons sem_var (semA_cons sem_var semA_nil))) sem_var)) (semS_ret sem_bl) semS_nx))))))))))) (semS_ret sem_bl)))⟩
theorem ok_law (T : Txt P w K mg fn cl) : OkAt P w K mg base CX0 22 (fn 37) ["script"] (spF ⟨K, cl, w⟩ m_law 1) := by
  obtain ⟨fd, F, B⟩ := T.d_law.fu
  exact ⟨fd, okF_law T F, B, F.kp⟩
end
end VG

section
open PySem PySem.Spec VL L2
namespace VL
theorem frz_val (d : D) : (O.val d).frz = d := rfl
/-! ### loops and comprehensions of mirrors, once for all -/
theorem mLc_run {mi : MI} {vs : List Nat} {p : Pat} {mt me : M} {ρ ρ1 : Rho} {ds : List D} (hi : mi ρ = some (ds, ρ1)) (hc : clean vs ρ1 = true) (hl : ds.length ≤ 100000) :
    mLc mi vs p mt me ρ = lcLoop vs p mt me ds ρ1 [] := by
  unfold mLc
  rw [hi]
  exact if_pos ⟨hc, hl⟩
theorem lcLoop_inv {vs : List Nat} {p : Pat} {mt me : M} {ρ : Rho} (st : D → Rho) (t : D → Bool) (g : D → D) : ∀ (ds acc : List D), (∀ d ∈ ds, bindP [] p d ρ = some (st d) ∧ wipeR (st d) vs = ρ ∧ mt (st d) = some (.ok (.val (.bl (t d))), st d) ∧ (t d = true → ∃ o, me (st d) = some (.ok o, st d) ∧ o.frz = g d)) →
    lcLoop vs p mt me ds ρ acc = some (.ok (.lst (acc ++ (ds.filter t).map g)), ρ)
  | [], acc, _ => by simp [lcLoop]
  | d :: ds, acc, h => by
    obtain ⟨h1, h2, h3, h4⟩ := h d List.mem_cons_self
    have ih := lcLoop_inv (vs := vs) (p := p) (mt := mt) (me := me) (ρ := ρ) st t g ds
    unfold lcLoop
    rw [h1]
    dsimp only
    rw [h3]
    cases e : t d with
    | true =>
      obtain ⟨o, h5, h6⟩ := h4 e
      simp only [frz_val, h5, h2, h6]
      rw [ih _ fun x hx => h x (List.mem_cons_of_mem _ hx), List.filter_cons_of_pos e]
      simp
    | false =>
      simp only [frz_val, h2]
      rw [ih _ fun x hx => h x (List.mem_cons_of_mem _ hx), List.filter_cons_of_neg (by rw [e]; decide)]
theorem lcIn_inv {vs : List Nat} {p : Pat} {mt me : M} {ρ : Rho} (st : D → Rho) (t : D → Bool) (g : D → D) : ∀ (ds acc : List D), (∀ d ∈ ds, bindP [] p d ρ = some (st d) ∧ wipeR (st d) vs = ρ ∧ mt (st d) = some (.ok (.val (.bl (t d))), st d) ∧ (t d = true → ∃ o, me (st d) = some (.ok o, st d) ∧ o.frz = g d)) →
    acc.length + ds.length ≤ 100000 → lcIn vs p mt me ds ρ acc = some (acc ++ (ds.filter t).map g, ρ)
  | [], acc, _, _ => by simp [lcIn]
  | d :: ds, acc, h, hl => by
    obtain ⟨h1, h2, h3, h4⟩ := h d List.mem_cons_self
    have ih := lcIn_inv (vs := vs) (p := p) (mt := mt) (me := me) (ρ := ρ) st t g ds
    rw [List.length_cons] at hl
    unfold lcIn
    rw [h1]
    dsimp only
    rw [h3]
    cases e : t d with
    | true =>
      obtain ⟨o, h5, h6⟩ := h4 e
      have lt : acc.length < 100000 := by omega
      simp only [frz_val, h5, h2, h6, if_pos lt]
      rw [ih _ (fun x hx => h x (List.mem_cons_of_mem _ hx)) (by rw [List.length_append, List.length_singleton]; omega), List.filter_cons_of_pos e]
      simp
    | false =>
      simp only [frz_val, h2]
      rw [ih _ (fun x hx => h x (List.mem_cons_of_mem _ hx)) (by omega), List.filter_cons_of_neg (by rw [e]; decide)]
theorem lcLoop_all {vs : List Nat} {p : Pat} {me : M} {ρ : Rho} (st : D → Rho) (g : D → D) (ds acc : List D) (h : ∀ d ∈ ds, bindP [] p d ρ = some (st d) ∧ wipeR (st d) vs = ρ ∧ ∃ o, me (st d) = some (.ok o, st d) ∧ o.frz = g d) :
    lcLoop vs p mYes me ds ρ acc = some (.ok (.lst (acc ++ ds.map g)), ρ) := by
  rw [lcLoop_inv st (fun _ => true) g ds acc fun d hd => ⟨(h d hd).1, (h d hd).2.1, rfl, fun _ => (h d hd).2.2⟩, List.filter_eq_self.mpr fun _ _ => rfl]
theorem lcIn_all {vs : List Nat} {p : Pat} {me : M} {ρ : Rho} (st : D → Rho) (g : D → D) (ds acc : List D) (h : ∀ d ∈ ds, bindP [] p d ρ = some (st d) ∧ wipeR (st d) vs = ρ ∧ ∃ o, me (st d) = some (.ok o, st d) ∧ o.frz = g d) (hl : acc.length + ds.length ≤ 100000) :
    lcIn vs p mYes me ds ρ acc = some (acc ++ ds.map g, ρ) := by
  rw [lcIn_inv st (fun _ => true) g ds acc (fun d hd => ⟨(h d hd).1, (h d hd).2.1, rfl, fun _ => (h d hd).2.2⟩) hl, List.filter_eq_self.mpr fun _ _ => rfl]
theorem mLc2_run {mi : MI} {vs : List Nat} {p : Pat} {mi1 : MI} {vs1 : List Nat} {p1 : Pat} {mt me : M} {ρ ρ1 : Rho} {ds : List D} (hi : mi ρ = some (ds, ρ1)) (hc : clean vs ρ1 = true) :
    mLc2 mi vs p mi1 vs1 p1 mt me ρ = (lcOut vs p mi1 vs1 p1 mt me ds ρ1 []).map fun x => (.ok (.lst x.1), x.2) := by
  unfold mLc2
  rw [hi]
  exact if_pos hc
/-- the outer turns: each one adds gs d -/
theorem lcOut_inv {vs : List Nat} {p : Pat} {mi : MI} {vs1 : List Nat} {p1 : Pat} {mt me : M} {ρ : Rho} (st : D → Rho) (es : D → List D) (gs : D → List D) : ∀ (ds acc : List D) (top : Nat), (∀ d ∈ ds, bindP [] p d ρ = some (st d) ∧ wipeR (st d) vs = ρ ∧ mi (st d) = some (es d, st d) ∧ clean vs1 (st d) = true ∧
      (∀ acc, acc.length + (es d).length ≤ top → lcIn vs1 p1 mt me (es d) (st d) acc = some (acc ++ gs d, st d)) ∧ (gs d).length ≤ (es d).length) →
    acc.length + (ds.map fun d => (es d).length).sum ≤ top → lcOut vs p mi vs1 p1 mt me ds ρ acc = some (acc ++ ds.flatMap gs, ρ)
  | [], acc, top, _, _ => by simp [lcOut]
  | d :: ds, acc, top, h, hl => by
    obtain ⟨h1, h2, h3, h4, h5, h6⟩ := h d List.mem_cons_self
    have ih := lcOut_inv (vs := vs) (p := p) (mi := mi) (vs1 := vs1) (p1 := p1) (mt := mt) (me := me) (ρ := ρ) st es gs ds
    rw [List.map_cons, List.sum_cons] at hl
    unfold lcOut
    rw [h1]
    dsimp only
    rw [h3]
    dsimp only
    rw [if_pos h4, h5 acc (by omega)]
    dsimp only
    rw [h2, ih _ top (fun x hx => h x (List.mem_cons_of_mem _ hx)) (by rw [List.length_append]; omega)]
    simp
/-- a for, by what holds ahead of each turn -/
theorem forLoop_inv {p : Pat} {b : List Nat → Rho → Option (Rs Fl × Rho)} {pins : List Nat} (Iv : Nat → Rho → Prop) : ∀ (ds : List D) (k : Nat) (ρ : Rho), Iv k ρ →
    (∀ (i : Nat) (d : D) (ρ : Rho), ds[i]? = some d → Iv (k + i) ρ → ∃ ρ1 ρ2, bindP pins p d ρ = some ρ1 ∧ (b pins ρ1 = some (.ok .nx, ρ2) ∨ b pins ρ1 = some (.ok .ct, ρ2)) ∧ Iv (k + i + 1) ρ2) →
    ∃ ρ', forLoop p b pins ds ρ = some (.ok .nx, ρ') ∧ Iv (k + ds.length) ρ'
  | [], k, ρ, h0, _ => ⟨ρ, by unfold forLoop; rfl, h0⟩
  | d :: ds, k, ρ, h0, h => by
    obtain ⟨ρ1, ρ2, h1, h2, h3⟩ := h 0 d ρ rfl h0
    obtain ⟨ρ', h4, h5⟩ := forLoop_inv (p := p) (b := b) (pins := pins) Iv ds (k + 1) ρ2 h3 fun i e ρ he hi => by
      have := h (i + 1) e ρ (by simpa using he) (by rw [show k + (i + 1) = k + 1 + i by omega]; exact hi)
      rw [show k + (i + 1) + 1 = k + 1 + i + 1 by omega] at this
      exact this
    refine ⟨ρ', ?_, by rw [List.length_cons, show k + (ds.length + 1) = k + 1 + ds.length by omega]; exact h5⟩
    unfold forLoop
    rw [h1]
    rcases h2 with h2 | h2
    · simp only [Option.bind, h2]
      exact h4
    · simp only [Option.bind, h2]
      exact h4
theorem sFor_inv {mi : MI} {p : Pat} {b : MS} {pins : List Nat} {ρ ρ0 : Rho} {ds : List D} (Iv : Nat → Rho → Prop) (hi : mi ρ = some (ds, ρ0)) (h0 : Iv 0 ρ0)
    (h : ∀ (i : Nat) (d : D) (ρ : Rho), ds[i]? = some d → Iv i ρ → ∃ ρ1 ρ2, bindP pins p d ρ = some ρ1 ∧ (b pins ρ1 = some (.ok .nx, ρ2) ∨ b pins ρ1 = some (.ok .ct, ρ2)) ∧ Iv (i + 1) ρ2) :
    ∃ ρ', sFor mi p b pins ρ = some (.ok .nx, ρ') ∧ Iv ds.length ρ' := by
  obtain ⟨ρ', h1, h2⟩ := forLoop_inv (p := p) (b := b) (pins := pins) Iv ds 0 ρ0 h0 fun i d ρ he hi => by
    rw [Nat.zero_add] at hi ⊢
    exact h i d ρ he hi
  rw [Nat.zero_add] at h2
  refine ⟨ρ', ?_, h2⟩
  unfold sFor
  rw [hi]
  exact h1
theorem iRange1_run {a : MA} {ρ ρ1 : Rho} {n : Nat} (h : a ρ = some (.ok [.d (.int (n : Int))], ρ1)) (hn : n ≤ 1000000) : iRange1 a ρ = some ((List.range n).map fun (j : Nat) => D.int (j : Int), ρ1) := by
  have c : (-1000000 : Int) ≤ (n : Int) ∧ (n : Int) ≤ 1000000 := by omega
  unfold iRange1
  rw [h]
  simp only [if_pos c, range, Int.toNat_natCast, Int.zero_add]
theorem iWalk_run {a : M} {ρ ρ1 : Rho} {o : O} {ds : List D} (h : a ρ = some (.ok o, ρ1)) (hw : walkD o.frz = some ds) : VL.iWalk a ρ = some (ds, ρ1) := by
  simp [VL.iWalk, h, hw]
end VL

end
section
open PySem PySem.Spec VL L2
namespace VM
open VG
theorem atI_nn {α : Type} {xs : List α} {k : Int} (h0 : 0 ≤ k) (h : k < xs.length) : ∃ x, atI xs k = some x ∧ xs[k.toNat]? = some x := by
  have hl : k.toNat < xs.length := by omega
  refine ⟨xs[k.toNat], ?_, by simp [hl]⟩
  simp [atI, ixN, h0, h, hl]
theorem cell_at (zs : List Int) (k : Int) (hk : 0 ≤ k) : ∃ c : Int, m_law_cell_at [.val (.lst (zs.map .int)), .val (.int k)] = some (.ok (.val (.int c)), [.val (.lst (zs.map .int)), .val (.int k)]) := by
  by_cases h : k < zs.length
  · obtain ⟨x, h1, h2⟩ := atI_nn hk h
    have hl : k.toNat < zs.length := by omega
    refine ⟨zs[k.toNat], ?_⟩
    have e : atI (zs.map D.int) k = some (.int zs[k.toNat]) := by simp [atI, ixN, hk, h, hl]
    simp [mFn0, mFn, sSeq, sThen, sIf, sRet, sNx, sAsgV, setV, mOp2, mOpL, look, O.pk, mVar, mC, bnd, mCB, aCons, aNil, dsOf, fOr1, fLen, fIntOf, fCmp, fInt, fIntC, O.frz, fIxA, fAddA, fMulA, fOr, fIx, pinsAux, fin, O.isOwn, bMod, bMul, bDivW, bPow, mTup, mCall, splitIo, aSl, aIo, dsOnly, m_law_cell_at, h, e]
  · refine ⟨0, ?_⟩
    simp [mFn0, mFn, sSeq, sThen, sIf, sRet, sNx, sAsgV, setV, mOp2, mOpL, look, O.pk, mVar, mC, bnd, mCB, aCons, aNil, dsOf, fOr1, fLen, fIntOf, fCmp, fInt, fIntC, O.frz, fIxA, fAddA, fMulA, fOr, fIx, pinsAux, fin, O.isOwn, bMod, bMul, bDivW, bPow, mTup, mCall, splitIo, aSl, aIo, dsOnly, m_law_cell_at, h]
theorem modlt (a b : Int) (h : 0 < b) : 0 ≤ a % b ∧ a % b < b := ⟨Int.emod_nonneg _ (by omega), Int.emod_lt_of_pos _ h⟩
def primes : List Int := [1000003, 1000033, 1000037, 1000039, 1000081, 1000099, 1000117, 1000121, 1000133, 1000151, 1000159, 1000171, 1000183, 1000187, 1000193, 1000199]
theorem draw (c k b : Int) (h1 : 1 ≤ k) (h9 : k ≤ 9) (hb : 0 < b) : ∃ r : Int, (0 ≤ r ∧ r < b) ∧ m_law_draw [.val (.int c), .val (.int k), .val (.int b)] = some (.ok (.val (.int r)), [.val (.int c), .val (.int k), .val (.int b)]) := by
  refine ⟨(c * 48271 + k * 69621) % (primes.getD k.toNat 1) % b, modlt _ b hb, ?_⟩
  have hk : k = 1 ∨ k = 2 ∨ k = 3 ∨ k = 4 ∨ k = 5 ∨ k = 6 ∨ k = 7 ∨ k = 8 ∨ k = 9 := by omega
  rcases hk with rfl | rfl | rfl | rfl | rfl | rfl | rfl | rfl | rfl <;>
  · simp [mFn0, mFn, sSeq, sThen, sIf, sRet, sNx, sAsgV, setV, mOp2, mOpL, look, O.pk, mVar, mC, bnd, mCB, aCons, aNil, dsOf, fOr1, fLen, fIntOf, fCmp, fInt, fIntC, O.frz, fIxA, fAddA, fMulA, fOr, fIx, pinsAux, fin, O.isOwn, bMod, bMul, bDivW, bPow, mTup, mCall, splitIo, aSl, aIo, dsOnly, m_law_draw, atI, ixN, hb, primes, fCatT, fCatL]
theorem fuelled (c k b : Int) (n : Nat) (p : Int) (x : Option O) : ∀ (i : Nat), ∃ (q : Int) (y : Option O), q = p * 1009 ^ n ∧
    forLoop (.nm 4) (sAsgV 3 (mOp2 fMulA (mVar 3) (mC (.int (1009))))) [] ((List.range' i n).map fun (j : Nat) => D.int (0 + (j : Int))) [some (.val (.int c)), some (.val (.int k)), some (.val (.int b)), some (.val (.int p)), x, none, none, none]
      = some (.ok .nx, [some (.val (.int c)), some (.val (.int k)), some (.val (.int b)), some (.val (.int q)), y, none, none, none]) := by
  induction n generalizing p x with
  | zero => exact fun i => ⟨p, x, by simp, by simp [forLoop]⟩
  | succ n ih =>
    intro i
    obtain ⟨q, y, e, h⟩ := ih (p * 1009) (some (.val (.int (0 + (i : Int))))) (i + 1)
    refine ⟨q, y, by rw [e, Int.pow_succ, Int.mul_assoc, Int.mul_comm 1009], ?_⟩
    rw [List.range'_succ, List.map_cons]
    unfold forLoop
    simp [mFn0, mFn, sSeq, sThen, sIf, sRet, sNx, sAsgV, setV, mOp2, mOpL, look, O.pk, mVar, mC, bnd, mCB, aCons, aNil, dsOf, fOr1, fLen, fIntOf, fCmp, fInt, fIntC, O.frz, fIxA, fAddA, fMulA, fOr, fIx, pinsAux, fin, O.isOwn, bMod, bMul, bDivW, bPow, mTup, mCall, splitIo, aSl, aIo, dsOnly, bindP]
    simpa [fMulA] using h
def sf : MS := (sFor (iRange1 (aCons (mOp2 (fIntC bMod fun i j => i % j) (mCB fIntOf (aCons (mVar 1) aNil)) (mC (.int (24)))) aNil)) (.nm 4) (sAsgV 3 (mOp2 fMulA (mVar 3) (mC (.int (1009))))))
theorem sf_run (c k b : Int) (h1 : 1 ≤ k) (h2 : k ≤ 12) : ∃ y : Option O, sf [] [some (.val (.int c)), some (.val (.int k)), some (.val (.int b)), some (.val (.int 1)), none, none, none, none]
    = some (.ok .nx, [some (.val (.int c)), some (.val (.int k)), some (.val (.int b)), some (.val (.int (1009 ^ k.toNat))), y, none, none, none]) := by
  obtain ⟨q, y, e, h⟩ := fuelled c k b k.toNat 1 none 0
  refine ⟨y, ?_⟩
  rw [Int.one_mul] at e
  rw [e] at h
  have hi : iRange1 (aCons (mOp2 (fIntC bMod fun i j => i % j) (mCB fIntOf (aCons (mVar 1) aNil)) (mC (.int (24)))) aNil) [some (.val (.int c)), some (.val (.int k)), some (.val (.int b)), some (.val (.int 1)), none, none, none, none]
      = some ((List.range' 0 k.toNat).map fun (j : Nat) => D.int (0 + (j : Int)), [some (.val (.int c)), some (.val (.int k)), some (.val (.int b)), some (.val (.int 1)), none, none, none, none]) := by
    have hk : k % 24 = k := by omega
    simp [mFn0, mFn, sSeq, sThen, sIf, sRet, sNx, sAsgV, setV, mOp2, mOpL, look, O.pk, mVar, mC, bnd, mCB, aCons, aNil, dsOf, fOr1, fLen, fIntOf, fCmp, fInt, fIntC, O.frz, fIxA, fAddA, fMulA, fOr, fIx, pinsAux, fin, O.isOwn, bMod, bMul, bDivW, bPow, mTup, mCall, splitIo, aSl, aIo, dsOnly, iRange1, hk, range, List.range_eq_range']
    omega
  unfold sf sFor
  rw [hi]
  exact h
theorem number_eq : m_law_number = mFn0 3 8 (sSeq (sAsgV 3 (mC (.int (1)))) (sSeq sf (sSeq (sAsgV 5 (mOp2 (fIntC bDivW fun i j => i / j) (mOp2 (fInt fun i j => i - j) (mVar 0) (mOp2 (fIntC bPow fun i j => i ^ j.toNat) (mC (.int (10))) (mC (.int (18))))) (mVar 3))) (sSeq (sIf (mOp2 (fCmp fun i j => decide (j < i)) (mVar 5) (mC (.int (0)))) (sRet (mOp2 (fIntC bMod fun i j => i % j) (mCB fIntOf (aCons (mOp2 (fIntC bMod fun i j => i % j) (mCB fIntOf (aCons (mVar 5) aNil)) (mC (.int (1009)))) aNil)) (mVar 2))) sNx) (sSeq (sAsgV 6 (mOp2 (fIntC bMod fun i j => i % j) (mCB fIntOf (aCons (mVar 0) aNil)) (mC (.int (1000003))))) (sSeq (sAsgV 7 (mOp2 fMulA (mOp2 fAddA (mVar 6) (mOp2 fMulA (mC (.int (977))) (mVar 1))) (mOp2 fAddA (mOp2 fAddA (mVar 6) (mOp2 fMulA (mC (.int (31))) (mVar 1))) (mC (.int (5)))))) (sRet (mOp2 (fIntC bMod fun i j => i % j) (mCB fIntOf (aCons (mCall m_law_draw (aCons (mVar 7) (aCons (mOp2 fAddA (mOp2 (fIntC bMod fun i j => i % j) (mCB fIntOf (aCons (mVar 1) aNil)) (mC (.int (9)))) (mC (.int (1)))) (aCons (mC (.int (999983))) aNil)))) aNil)) (mVar 2))))))))) := rfl
theorem pow_ok (k : Int) (h1 : 1 ≤ k) (h2 : k ≤ 12) : 0 < (1009 : Int) ^ k.toNat ∧ ((1009 : Nat) ^ k.toNat).log2 < 9000 := by
  have hk : k = 1 ∨ k = 2 ∨ k = 3 ∨ k = 4 ∨ k = 5 ∨ k = 6 ∨ k = 7 ∨ k = 8 ∨ k = 9 ∨ k = 10 ∨ k = 11 ∨ k = 12 := by omega
  rcases hk with rfl | rfl | rfl | rfl | rfl | rfl | rfl | rfl | rfl | rfl | rfl | rfl <;> exact ⟨by decide +kernel, by decide +kernel⟩
theorem number (c k b : Int) (h1 : 1 ≤ k) (h2 : k ≤ 12) (hb : 0 < b) : ∃ r : Int, (0 ≤ r ∧ r < b) ∧ m_law_number [.val (.int c), .val (.int k), .val (.int b)] = some (.ok (.val (.int r)), [.val (.int c), .val (.int k), .val (.int b)]) := by
  obtain ⟨y, hs⟩ := sf_run c k b h1 h2
  obtain ⟨p1, p2⟩ := pow_ok k h1 h2
  have tp : (fIntC bPow fun i j => i ^ j.toNat) (.int 10) (.int 18) = some (.val (.int 1000000000000000000)) := by rfl
  by_cases hpos : 0 < (c - 1000000000000000000) / 1009 ^ k.toNat
  · refine ⟨(c - 1000000000000000000) / 1009 ^ k.toNat % 1009 % b, modlt _ b hb, ?_⟩
    rw [number_eq]
    simp [mFn0, mFn, sSeq, sThen, sIf, sRet, sNx, sAsgV, setV, mOp2, mOpL, look, O.pk, mVar, mC, bnd, mCB, aCons, aNil, dsOf, fOr1, fLen, fIntOf, fCmp, fInt, fIntC, O.frz, fIxA, fAddA, fMulA, fOr, fIx, pinsAux, fin, O.isOwn, bMod, bMul, bDivW, bPow, mTup, mCall, splitIo, aSl, aIo, dsOnly, hs, hpos, p1, p2, hb]
  · obtain ⟨s0, s1⟩ := modlt c 1000003 (by decide)
    obtain ⟨d, ⟨d0, d1⟩, hd⟩ := draw ((c % 1000003 + 977 * k) * (c % 1000003 + 31 * k + 5)) (k % 9 + 1) 999983 (by omega) (by omega) (by decide)
    refine ⟨d % b, modlt _ b hb, ?_⟩
    rw [number_eq]
    have m1 : -18446744073709551616 < c % 1000003 + 977 * k := by omega
    have m2 : c % 1000003 + 977 * k < 18446744073709551616 := by omega
    simp [mFn0, mFn, sSeq, sThen, sIf, sRet, sNx, sAsgV, setV, mOp2, mOpL, look, O.pk, mVar, mC, bnd, mCB, aCons, aNil, dsOf, fOr1, fLen, fIntOf, fCmp, fInt, fIntC, O.frz, fIxA, fAddA, fMulA, fOr, fIx, pinsAux, fin, O.isOwn, bMod, bMul, bDivW, bPow, mTup, mCall, splitIo, aSl, aIo, dsOnly, hs, hpos, p1, p2, hb, hd, m1, m2]
/-- the state of the draws -/
def drawO (zs : List Int) (f a : Int) : O := .lst [.lst (zs.map .int), .int f, .int a]
theorem next (zs : List Int) (f a b : Int) (hf : 0 ≤ f) (ha : 0 ≤ a) (hb : 0 < b) : ∃ r : Int, (0 ≤ r ∧ r < b) ∧ m_law_next [drawO zs f a, .val (.int b)] = some (.ok (.val (.int r)), [drawO zs f (a + 1), .val (.int b)]) := by
  obtain ⟨c, hc⟩ := cell_at zs (f + (a + 1) / 12) (by omega)
  obtain ⟨r, hr, hn⟩ := number (c + 31 * ((a + 1) / 12)) ((a + 1) % 12 + 1) b (by omega) (by omega) hb
  refine ⟨r, hr, ?_⟩
  have l12 : Nat.log2 12 < 9000 := by decide +kernel
  unfold drawO
  simp [mFn0, mFn, sSeq, sThen, sIf, sRet, sNx, sAsgV, setV, mOp2, mOpL, look, O.pk, mVar, mC, bnd, mCB, aCons, aNil, dsOf, fOr1, fLen, fIntOf, fCmp, fInt, fIntC, O.frz, fIxA, fAddA, fMulA, fOr, fIx, pinsAux, fin, O.isOwn, bMod, bMul, bDivW, bPow, mTup, mCall, splitIo, aSl, aIo, dsOnly, m_law_next, sSetM, ixN, atI, hc, hn, l12]
end VM

end
section
open PySem PySem.Spec VL L2
namespace VM
open VG
def every (m : Nat) : List (Int × Int) := (List.range m).flatMap fun (a : Nat) => (List.range' (a + 1) (m - (a + 1))).map fun (b : Nat) => ((a : Int), (b : Int))
/-- ascending pairs of ints below m -/
structure Good (m : Nat) (s : List (Int × Int)) : Prop where
  up : s.Pairwise fun x y => SrtO.lexB x y = true
  bd : ∀ p ∈ s, 0 ≤ p.1 ∧ p.1 < p.2 ∧ p.2 < m
  few : s.length ≤ 60
theorem Good.sub {m : Nat} {s t : List (Int × Int)} (g : Good m s) (h : t.Sublist s) : Good m t := ⟨g.up.sublist h, fun p hp => g.bd p (h.subset hp), Nat.le_trans h.length_le g.few⟩
theorem small {m : Nat} (h1 : 1 ≤ m) (h8 : m ≤ 8) : m = 1 ∨ m = 2 ∨ m = 3 ∨ m = 4 ∨ m = 5 ∨ m = 6 ∨ m = 7 ∨ m = 8 := by omega
theorem every_good {m : Nat} (h1 : 1 ≤ m) (h8 : m ≤ 8) : Good m (every m) := by
  rcases small h1 h8 with rfl | rfl | rfl | rfl | rfl | rfl | rfl | rfl <;> exact ⟨by decide +kernel, by decide +kernel, by decide +kernel⟩
theorem every_28 {m : Nat} (h1 : 1 ≤ m) (h8 : m ≤ 8) : (every m).length ≤ 28 := by
  rcases small h1 h8 with rfl | rfl | rfl | rfl | rfl | rfl | rfl | rfl <;> decide +kernel
theorem every_run {m : Nat} (h1 : 1 ≤ m) (h8 : m ≤ 8) : m_law_every [.val (.int m)] = some (.ok (.val (.lst ((every m).map tupP))), [.val (.int m)]) := by
  rcases small h1 h8 with rfl | rfl | rfl | rfl | rfl | rfl | rfl | rfl <;> kernel_rfl
def plainD (m : Nat) (s : List (Int × Int)) : D := .tup [.int m, .tup (s.map tupP)]
def rvT : M := mOp2 (fOr (fCmp fun i j => decide (i < j)) fLtT) (mCall m_law_next (aSl 0 (aCons (mC (.int (7))) aNil))) (mVar 3)
def rvR (zs : List Int) (f a m e : Int) (t : Int) : Rho := [some (drawO zs f a), some (.val (.int t)), some (.val (.int m)), some (.val (.int e)), none]
theorem lcDraw (zs : List Int) (f m e t : Int) (hf : 0 ≤ f) : ∀ (ps : List (Int × Int)) (acc : List D) (a : Int), 0 ≤ a → ∃ (s : List (Int × Int)) (a' : Int), s.Sublist ps ∧ a ≤ a' ∧
    lcLoop [4] (.nm 4) rvT (mVar 4) (ps.map tupP) (rvR zs f a m e t) acc = some (.ok (.lst (acc ++ s.map tupP)), rvR zs f a' m e t)
  | [], acc, a, ha => ⟨[], a, .slnil, Int.le_refl _, by simp [lcLoop]⟩
  | p :: ps, acc, a, ha => by
    obtain ⟨r, hr, hn⟩ := next zs f a 7 hf ha (by decide)
    obtain ⟨s, a', h1, h2, h3⟩ := lcDraw zs f m e t hf ps (if r < e then acc ++ [tupP p] else acc) (a + 1) (by omega)
    have test : rvT [some (drawO zs f a), some (.val (.int t)), some (.val (.int m)), some (.val (.int e)), some (.val (tupP p))] = some (.ok (.val (.bl (decide (r < e)))), [some (drawO zs f (a + 1)), some (.val (.int t)), some (.val (.int m)), some (.val (.int e)), some (.val (tupP p))]) := by
      unfold drawO at hn ⊢
      simp [mFn0, mFn, sSeq, sThen, sIf, sRet, sNx, sAsgV, setV, mOp2, mOpL, look, O.pk, mVar, mC, bnd, mCB, aCons, aNil, dsOf, fOr1, fLen, fIntOf, fCmp, fInt, fIntC, O.frz, fIxA, fAddA, fMulA, fOr, fIx, pinsAux, fin, O.isOwn, bMod, bMul, bDivW, bPow, mTup, mCall, splitIo, aSl, aIo, dsOnly, rvT, hn]
    by_cases c : r < e
    · refine ⟨p :: s, a', h1.cons₂ p, by omega, ?_⟩
      rw [List.map_cons]
      unfold lcLoop
      simp only [rvR, bindP, setV, List.contains_nil, List.length_cons, List.length_nil] at h3 ⊢
      simp [c] at h3
      simp [test, c, frz_val, mVar, wipeR, h3]
    · refine ⟨s, a', h1.cons p, by omega, ?_⟩
      rw [List.map_cons]
      unfold lcLoop
      simp only [rvR, bindP, setV, List.contains_nil, List.length_cons, List.length_nil] at h3 ⊢
      simp [c] at h3
      simp [test, c, frz_val, mVar, wipeR, h3]
end VM

end
section
open PySem PySem.Spec VL L2
namespace VM
open VG
theorem fTuple_lst (ds : List D) : fTuple [.lst ds] = some (.val (.tup ds)) := rfl
theorem rivals (zs : List Int) (f a : Int) (top : Nat) (hf : 0 ≤ f) (ha : 0 ≤ a) (ht : 1 ≤ top) (h8 : top ≤ 8) : ∃ (m : Nat) (s : List (Int × Int)) (a' : Int), 1 ≤ m ∧ m ≤ top ∧ s.Sublist (every m) ∧ a ≤ a' ∧
    m_law_rivals [drawO zs f a, .val (.int top)] = some (.ok (.val (plainD m s)), [drawO zs f a', .val (.int top)]) := by
  obtain ⟨r, ⟨r0, r1⟩, h1⟩ := next zs f a top hf ha (by omega)
  obtain ⟨e, ⟨e0, e1⟩, h2⟩ := next zs f (a + 1) 6 hf (by omega) (by decide)
  obtain ⟨m, hm⟩ : ∃ m : Nat, (m : Int) = 1 + r := ⟨(1 + r).toNat, by omega⟩
  have m1 : 1 ≤ m := by omega
  have m8 : m ≤ 8 := by omega
  obtain ⟨s, a', k1, k2, k3⟩ := lcDraw zs f m (1 + e) top hf (every m) [] (a + 1 + 1) (by omega)
  have len := every_28 m1 m8
  have lc : mLc (iWalkA (mCall m_law_every (aCons (mVar 2) aNil))) [4] (.nm 4) rvT (mVar 4) (rvR zs f (a + 1 + 1) m (1 + e) top) = some (.ok (.lst (s.map tupP)), rvR zs f a' m (1 + e) top) := by
    have it : iWalkA (mCall m_law_every (aCons (mVar 2) aNil)) (rvR zs f (a + 1 + 1) m (1 + e) top) = some ((every m).map tupP, rvR zs f (a + 1 + 1) m (1 + e) top) := by
      have ev := every_run m1 m8
      unfold iWalkA
      simp [mFn0, mFn, sSeq, sThen, sIf, sRet, sNx, sAsgV, setV, mOp2, mOpL, look, O.pk, mVar, mC, bnd, mCB, aCons, aNil, dsOf, fOr1, fLen, fIntOf, fCmp, fInt, fIntC, O.frz, fIxA, fAddA, fMulA, fOr, fIx, pinsAux, fin, O.isOwn, bMod, bMul, bDivW, bPow, mTup, mCall, splitIo, aSl, aIo, dsOnly, rvR, ev, walkD, seqD]
    rw [mLc_run it (by rfl) (by rw [List.length_map]; omega), k3]
    rfl
  refine ⟨m, s, a', m1, by omega, k1, by omega, ?_⟩
  have e1 : m_law_rivals = mFn0 2 5 (sSeq (sAsgP (.tu ((.nm 2) :: (.nm 3) :: [])) (mTup (aCons (mOp2 fAddA (mC (.int (1))) (mCall m_law_next (aSl 0 (aCons (mVar 1) aNil)))) (aCons (mOp2 fAddA (mC (.int (1))) (mCall m_law_next (aSl 0 (aCons (mC (.int (6))) aNil)))) aNil)))) (sRet (mTup (aCons (mVar 2) (aCons (mCB fTuple (aCons (mLc (iWalkA (mCall m_law_every (aCons (mVar 2) aNil))) [4] (.nm 4) rvT (mVar 4)) aNil)) aNil))))) := rfl
  rw [e1]
  generalize mLc (iWalkA (mCall m_law_every (aCons (mVar 2) aNil))) [4] (.nm 4) rvT (mVar 4) = L at lc ⊢
  unfold rvR at lc
  unfold drawO at h1 h2 lc ⊢
  have hm' : (1 + r) = (m : Int) := hm.symm
  simp [mFn0, mFn, sSeq, sThen, sIf, sRet, sNx, sAsgV, setV, mOp2, mOpL, look, O.pk, mVar, mC, bnd, mCB, aCons, aNil, dsOf, fOr1, fLen, fIntOf, fCmp, fInt, fIntC, O.frz, fIxA, fAddA, fMulA, fOr, fIx, pinsAux, fin, O.isOwn, bMod, bMul, bDivW, bPow, mTup, mCall, splitIo, aSl, aIo, dsOnly, sAsgP, bindP, bindPs, h1, h2, lc, plainD, fTuple_lst, hm']
end VM

end
section
open PySem PySem.Spec VL L2
namespace VM
open VG
theorem lay_int (n : Int) : (PyData.int n).canLay0 = true := rfl
theorem dep_int (n : Int) : (PyData.int n).depth = 0 := rfl
theorem eq_int (x y : Int) : fEq (.int x) (.int y) = some (.val (.bl (decide (x = y)))) := by
  simp [fEq, toPy, SeqAt.shaped, PyData.eqv, lay_int, dep_int]
  by_cases h : x = y <;> simp [h]
theorem ne_int (x y : Int) : fNe (.int x) (.int y) = some (.val (.bl (!decide (x = y)))) := by
  simp [fNe, toPy, SeqAt.shaped, PyData.eqv, lay_int, dep_int]
  by_cases h : x = y <;> simp [h]
theorem whole_int (n : Int) : m_is_whole [.val (.int n)] = some (.ok (.val (.bl true)), [.val (.int n)]) := by kernel_rfl
theorem isint (n lo hi : Int) : m_is_integer [.val (.int n), .val (.int lo), .val (.int hi)] = some (.ok (.val (.bl (decide (lo ≤ n) && decide (n < hi)))), [.val (.int n), .val (.int lo), .val (.int hi)]) := by
  by_cases h : lo ≤ n
  · simp [mFn0, mFn, sSeq, sThen, sIf, sRet, sNx, sAsgV, setV, mOp2, mOpL, look, O.pk, mVar, mC, bnd, mCB, aCons, aNil, dsOf, fOr1, fLen, fIntOf, fCmp, fInt, fIntC, O.frz, fIxA, fAddA, fMulA, fOr, fIx, pinsAux, fin, O.isOwn, bMod, bMul, bDivW, bPow, mTup, mCall, splitIo, aSl, aIo, dsOnly, m_is_integer, mAnd, mChain, whole_int, h]
  · simp [mFn0, mFn, sSeq, sThen, sIf, sRet, sNx, sAsgV, setV, mOp2, mOpL, look, O.pk, mVar, mC, bnd, mCB, aCons, aNil, dsOf, fOr1, fLen, fIntOf, fCmp, fInt, fIntC, O.frz, fIxA, fAddA, fMulA, fOr, fIx, pinsAux, fin, O.isOwn, bMod, bMul, bDivW, bPow, mTup, mCall, splitIo, aSl, aIo, dsOnly, m_is_integer, mAnd, mChain, whole_int, h]
theorem isT_tup (ds : List D) : ansT "tuple" (.tup ds) = some true := by rfl
theorem bools_bl : ∀ (bs : List Bool), bools (bs.map D.bl) = some bs
  | [] => rfl
  | b :: bs => by
    simp [bools, bools_bl bs]
theorem fAll_map {α : Type} (l : List α) (g : α → Bool) : fAll [.lst (l.map fun x => .bl (g x))] = some (.val (.bl (l.all g))) := by
  have : (l.map fun x => D.bl (g x)) = (l.map g).map D.bl := by simp
  rw [this]
  show (bools ((l.map g).map D.bl)).map _ = _
  rw [bools_bl]
  simp [List.all_map, Function.comp_def]
/-- are_integers of a tuple of ints -/
theorem areints (ns : List Int) (lo hi : Int) (hl : ns.length ≤ 100000) : m_are_integers [.val (.tup (ns.map .int)), .val (.int lo), .val (.int hi)] = some (.ok (.val (.bl (ns.all fun n => decide (lo ≤ n) && decide (n < hi)))), [.val (.tup (ns.map .int)), .val (.int lo), .val (.int hi)]) := by
  have lc : mLc (iWalkA (mVar 0)) [3] (.nm 3) mYes (mCall m_is_integer (aCons (mVar 3) (aCons (mVar 1) (aCons (mVar 2) aNil)))) [some (.val (.tup (ns.map .int))), some (.val (.int lo)), some (.val (.int hi)), none]
      = some (.ok (.lst (ns.map fun n => .bl (decide (lo ≤ n) && decide (n < hi)))), [some (.val (.tup (ns.map .int))), some (.val (.int lo)), some (.val (.int hi)), none]) := by
    rw [mLc_run (ρ1 := [some (.val (.tup (ns.map .int))), some (.val (.int lo)), some (.val (.int hi)), none]) (ds := ns.map .int) (by simp [iWalkA, mVar, O.frz, walkD, seqD]) (by rfl) (by rw [List.length_map]; exact hl)]
    rw [lcLoop_all (fun d => [some (.val (.tup (ns.map .int))), some (.val (.int lo)), some (.val (.int hi)), some (.val d)]) (fun d => match d with | .int n => .bl (decide (lo ≤ n) && decide (n < hi)) | _ => .non) (ns.map .int) [] ?_]
    · simp
    · intro d hd
      obtain ⟨n, _, rfl⟩ := List.mem_map.mp hd
      refine ⟨by simp [bindP, setV], by simp [wipeR], .val (.bl (decide (lo ≤ n) && decide (n < hi))), ?_, rfl⟩
      simp [mFn0, mFn, sSeq, sThen, sIf, sRet, sNx, sAsgV, setV, mOp2, mOpL, look, O.pk, mVar, mC, bnd, mCB, aCons, aNil, dsOf, fOr1, fLen, fIntOf, fCmp, fInt, fIntC, O.frz, fIxA, fAddA, fMulA, fOr, fIx, pinsAux, fin, O.isOwn, bMod, bMul, bDivW, bPow, mTup, mCall, splitIo, aSl, aIo, dsOnly, isint]
  unfold m_are_integers
  generalize mLc (iWalkA (mVar 0)) [3] (.nm 3) mYes (mCall m_is_integer (aCons (mVar 3) (aCons (mVar 1) (aCons (mVar 2) aNil)))) = L at lc ⊢
  simp [mFn0, mFn, sSeq, sThen, sIf, sRet, sNx, sAsgV, setV, mOp2, mOpL, look, O.pk, mVar, mC, bnd, mCB, aCons, aNil, dsOf, fOr1, fLen, fIntOf, fCmp, fInt, fIntC, O.frz, fIxA, fAddA, fMulA, fOr, fIx, pinsAux, fin, O.isOwn, bMod, bMul, bDivW, bPow, mTup, mCall, splitIo, aSl, aIo, dsOnly, mAnd, mIs, isT_tup, lc, fAll_map]
theorem ispair (m a b : Int) (h : 0 ≤ a ∧ a < b ∧ b < m) : m_is_pair [.val (.int m), .val (tupP (a, b))] = some (.ok (.val (.bl true)), [.val (.int m), .val (tupP (a, b))]) := by
  have e := areints [a, b] 0 m (by simp)
  have c : (0 ≤ a ∧ a < m) ∧ 0 ≤ b ∧ b < m := by omega
  simp [c] at e
  have l2 : fOr1 fLen fLenD [.tup [.int a, .int b]] = some (.val (.int 2)) := by rfl
  unfold tupP
  simp [mFn0, mFn, sSeq, sThen, sIf, sRet, sNx, sAsgV, setV, mOp2, mOpL, look, O.pk, mVar, mC, bnd, mCB, aCons, aNil, dsOf, fOr1, fLen, fIntOf, fCmp, fInt, fIntC, O.frz, fIxA, fAddA, fMulA, fOr, fIx, pinsAux, fin, O.isOwn, bMod, bMul, bDivW, bPow, mTup, mCall, splitIo, aSl, aIo, dsOnly, m_is_pair, mAnd, e, l2, eq_int, atI, ixN, h]
theorem up_pairs : ∀ (s : List (Int × Int)), s.Pairwise (fun x y => SrtO.lexB x y = true) → ∀ p ∈ s.zip s.tail, SrtO.lexB p.1 p.2 = true
  | [], _, p, h => by cases h
  | [_], _, p, h => by cases h
  | x :: y :: s, h, p, hp => by
    have a := List.pairwise_cons.mp h
    rcases List.mem_cons.mp (show p ∈ (x, y) :: (y :: s).zip s from hp) with e | hp
    · rw [e]
      exact a.1 y List.mem_cons_self
    · exact up_pairs (y :: s) a.2 p hp
end VM

end
section
open PySem PySem.Spec VL L2
namespace VM
open VG
theorem lt_pairs (x y : Int × Int) : fOr (fCmp fun i j => decide (i < j)) fLtT (tupP x) (tupP y) = some (.val (.bl (SrtO.lexB x y))) := by
  have e : HT.lexLt [x.1, x.2] [y.1, y.2] = SrtO.lexB x y := by
    simp only [HT.lexLt, SrtO.lexB]
    split
    · split
      · rename_i h
        simp [h]
      · rfl
    · rfl
  show some (O.val (D.bl (HT.lexLt [x.1, x.2] [y.1, y.2]))) = _
  rw [e]
theorem cut1 (ds : List D) : VL.cutD ds (some 1) none = ds.tail := by
  cases ds with
  | nil => rfl
  | cons d ds =>
    unfold VL.cutD
    have e1 : HT.sIx (d :: ds).length 0 (some 1) = 1 := by
      rw [show (some 1 : Option Int) = some ((1 : Nat) : Int) from rfl, HT.sIx_nat]
      simp
    have e2 : HT.sIx (d :: ds).length (d :: ds).length none = (d :: ds).length := rfl
    rw [e1, e2]
    simp
theorem zip_map (s : List (Int × Int)) : ∀ t : List (Int × Int), zipD (s.map tupP) (t.map tupP) = (s.zip t).map fun p => .tup [tupP p.1, tupP p.2] := by
  induction s with
  | nil => intro t; cases t <;> rfl
  | cons x s ih =>
    intro t
    cases t with
    | nil => rfl
    | cons y t => simp [zipD, ih]
theorem isasc (s : List (Int × Int)) (h : s.Pairwise fun x y => SrtO.lexB x y = true) (hl : s.length ≤ 100000) : m_is_ascending [.val (.tup (s.map tupP))] = some (.ok (.val (.bl true)), [.val (.tup (s.map tupP))]) := by
  have lc : mLc (VL.iZip (aCons (mVar 0) (aCons (mSl (mVar 0) (oPart (mC (.int (1)))) oNone) aNil))) [1, 2] (.tu ((.nm 1) :: (.nm 2) :: [])) mYes (mOp2 (fOr (fCmp fun i j => decide (i < j)) fLtT) (mVar 1) (mVar 2)) [some (.val (.tup (s.map tupP))), none, none]
      = some (.ok (.lst ((s.zip s.tail).map fun p => .bl (SrtO.lexB p.1 p.2))), [some (.val (.tup (s.map tupP))), none, none]) := by
    have it : VL.iZip (aCons (mVar 0) (aCons (mSl (mVar 0) (oPart (mC (.int (1)))) oNone) aNil)) [some (.val (.tup (s.map tupP))), none, none] = some ((s.zip s.tail).map (fun p => .tup [tupP p.1, tupP p.2]), [some (.val (.tup (s.map tupP))), none, none]) := by
      have t : (s.map tupP).tail = s.tail.map tupP := by cases s <;> rfl
      have z : zipD (s.map tupP) (s.map tupP).tail = (s.zip s.tail).map fun p => .tup [tupP p.1, tupP p.2] := by rw [t, zip_map]
      simp [mFn0, mFn, sSeq, sThen, sIf, sRet, sNx, sAsgV, setV, mOp2, mOpL, look, O.pk, mVar, mC, bnd, mCB, aCons, aNil, dsOf, fOr1, fLen, fIntOf, fCmp, fInt, fIntC, O.frz, fIxA, fAddA, fMulA, fOr, fIx, pinsAux, fin, O.isOwn, bMod, bMul, bDivW, bPow, mTup, mCall, splitIo, aSl, aIo, dsOnly, VL.iZip, mSl, oPart, oNone, fSl, cut1, seqD, z]
    rw [mLc_run it (by rfl) (by rw [List.length_map, List.length_zip]; omega)]
    rw [lcLoop_all (fun d => match d with | .tup [x, y] => [some (.val (.tup (s.map tupP))), some (.val x), some (.val y)] | _ => []) (fun d => match d with | .tup [.tup [.int a, .int b], .tup [.int c, .int e]] => .bl (SrtO.lexB (a, b) (c, e)) | _ => .non) _ [] ?_]
    · simp [tupP]
    · intro d hd
      obtain ⟨p, _, rfl⟩ := List.mem_map.mp hd
      refine ⟨by simp [bindP, bindPs, setV], by simp [wipeR], .val (.bl (SrtO.lexB p.1 p.2)), ?_, rfl⟩
      have := lt_pairs p.1 p.2
      simp [mOp2, mVar, bnd, O.frz, this]
  unfold m_is_ascending
  generalize mLc (VL.iZip (aCons (mVar 0) (aCons (mSl (mVar 0) (oPart (mC (.int (1)))) oNone) aNil))) [1, 2] (.tu ((.nm 1) :: (.nm 2) :: [])) mYes (mOp2 (fOr (fCmp fun i j => decide (i < j)) fLtT) (mVar 1) (mVar 2)) = L at lc ⊢
  have al : (s.zip s.tail).all (fun p => SrtO.lexB p.1 p.2) = true := List.all_eq_true.mpr (up_pairs s h)
  simp [mFn0, mFn, sSeq, sThen, sIf, sRet, sNx, sAsgV, setV, mOp2, mOpL, look, O.pk, mVar, mC, bnd, mCB, aCons, aNil, dsOf, fOr1, fLen, fIntOf, fCmp, fInt, fIntC, O.frz, fIxA, fAddA, fMulA, fOr, fIx, pinsAux, fin, O.isOwn, bMod, bMul, bDivW, bPow, mTup, mCall, splitIo, aSl, aIo, dsOnly, lc, fAll_map (s.zip s.tail) (fun p => SrtO.lexB p.1 p.2), al]
theorem fAll_true (n : Nat) : fAll [.lst (List.replicate n (.bl true))] = some (.val (.bl true)) := by
  have := fAll_map (List.replicate n ()) (fun _ => true)
  simpa using this
theorem arepairs (m : Nat) (s : List (Int × Int)) (g : Good m s) : m_are_pairs [.val (.int m), .val (.tup (s.map tupP))] = some (.ok (.val (.bl true)), [.val (.int m), .val (.tup (s.map tupP))]) := by
  have hl := g.few
  have lc : mLc (iWalkA (mVar 1)) [2] (.nm 2) mYes (mCall m_is_pair (aCons (mVar 0) (aCons (mVar 2) aNil))) [some (.val (.int m)), some (.val (.tup (s.map tupP))), none]
      = some (.ok (.lst (s.map fun _ => .bl true)), [some (.val (.int m)), some (.val (.tup (s.map tupP))), none]) := by
    rw [mLc_run (ρ1 := [some (.val (.int m)), some (.val (.tup (s.map tupP))), none]) (ds := s.map tupP) (by simp [iWalkA, mVar, O.frz, walkD, seqD]) (by rfl) (by rw [List.length_map]; omega)]
    rw [lcLoop_all (fun d => [some (.val (.int m)), some (.val (.tup (s.map tupP))), some (.val d)]) (fun _ => .bl true) _ [] ?_]
    · simp
    · intro d hd
      obtain ⟨p, hp, rfl⟩ := List.mem_map.mp hd
      refine ⟨by simp [bindP, setV], by simp [wipeR], .val (.bl true), ?_, rfl⟩
      have := ispair m p.1 p.2 (g.bd p hp)
      simp [mFn0, mFn, sSeq, sThen, sIf, sRet, sNx, sAsgV, setV, mOp2, mOpL, look, O.pk, mVar, mC, bnd, mCB, aCons, aNil, dsOf, fOr1, fLen, fIntOf, fCmp, fInt, fIntC, O.frz, fIxA, fAddA, fMulA, fOr, fIx, pinsAux, fin, O.isOwn, bMod, bMul, bDivW, bPow, mTup, mCall, splitIo, aSl, aIo, dsOnly, this]
  have as := isasc s g.up (by omega)
  have at_ : fAll [.lst (s.map fun _ => D.bl true)] = some (.val (.bl true)) := by
    rw [fAll_map s (fun _ => true)]
    simp
  unfold m_are_pairs
  generalize mLc (iWalkA (mVar 1)) [2] (.nm 2) mYes (mCall m_is_pair (aCons (mVar 0) (aCons (mVar 2) aNil))) = L at lc ⊢
  simp [mFn0, mFn, sSeq, sThen, sIf, sRet, sNx, sAsgV, setV, mOp2, mOpL, look, O.pk, mVar, mC, bnd, mCB, aCons, aNil, dsOf, fOr1, fLen, fIntOf, fCmp, fInt, fIntC, O.frz, fIxA, fAddA, fMulA, fOr, fIx, pinsAux, fin, O.isOwn, bMod, bMul, bDivW, bPow, mTup, mCall, splitIo, aSl, aIo, dsOnly, mAnd, mIs, isT_tup, lc, at_, as]
def rvF (m : Nat) (s : List (Int × Int)) : List (Str × D) := [("many", .int m), ("pairs", .tup (s.map tupP))]
def rivD (m : Nat) (s : List (Int × Int)) : D := .ins 5 (rvF m s)
theorem rinit (m : Nat) (s : List (Int × Int)) (h1 : 1 ≤ m) (h8 : m ≤ 8) (g : Good m s) : m_Rivals___init__ [.ins 5 [], .val (.int m), .val (.tup (s.map tupP))] = some (.ok (.val .non), [.ins 5 (rvF m s), .val (.int m), .val (.tup (s.map tupP))]) := by
  have e := arepairs m s g
  have p1 : putFD "many" (.int m) [] = ([("many", .int m)] : List (Str × D)) := by rfl
  have p2 : putFD "pairs" (.tup (s.map tupP)) ([("many", .int m)] : List (Str × D)) = rvF m s := by kernel_rfl
  have c : (1 : Int) ≤ m ∧ (m : Int) < 9 := by omega
  have i := isint m 1 9
  simp [c] at i
  simp [mFn0, mFn, sSeq, sThen, sIf, sRet, sNx, sAsgV, setV, mOp2, mOpL, look, O.pk, mVar, mC, bnd, mCB, aCons, aNil, dsOf, fOr1, fLen, fIntOf, fCmp, fInt, fIntC, O.frz, fIxA, fAddA, fMulA, fOr, fIx, pinsAux, fin, O.isOwn, bMod, bMul, bDivW, bPow, mTup, mCall, splitIo, aSl, aIo, dsOnly, m_Rivals___init__, mNot, mTru, truD, i, e, sFldM, p1, p2]
end VM

end
section
open PySem PySem.Spec VL L2
namespace VM
open VG
def pyP (p : Int × Int) : PyData := .tuple [.int p.1, .int p.2]
theorem toPy_P (p : Int × Int) : toPy (tupP p) = some (pyP p) := by rfl
theorem toPys_P : ∀ s : List (Int × Int), toPys (s.map tupP) = some (s.map pyP)
  | [] => rfl
  | p :: s => by
    rw [List.map_cons, List.map_cons]
    unfold toPys
    rw [toPy_P, toPys_P s]
    rfl
theorem eqv_P (p q : Int × Int) : PyData.eqv (pyP p) (pyP q) = decide (p = q) := by
  have e : PyData.eqv (pyP p) (pyP q) = (decide (p.1 = q.1) && (decide (p.2 = q.2) && true)) := by
    simp [pyP, PyData.eqv, PyData.eqvAll]
    by_cases h : p.1 = q.1 <;> by_cases k : p.2 = q.2 <;> simp [h, k]
  rw [e]
  by_cases h : p = q
  · subst h
    simp
  · have : ¬ (p.1 = q.1 ∧ p.2 = q.2) := fun z => h (Prod.ext z.1 z.2)
    by_cases h1 : p.1 = q.1
    · have h2 : ¬ p.2 = q.2 := fun z => this ⟨h1, z⟩
      simp [h, h2]
    · simp [h, h1]
theorem eqvAll_P : ∀ s t : List (Int × Int), PyData.eqvAll (s.map pyP) (t.map pyP) = decide (s = t)
  | [], [] => by simp [PyData.eqvAll]
  | [], _ :: _ => by simp [PyData.eqvAll]
  | _ :: _, [] => by simp [PyData.eqvAll]
  | p :: s, q :: t => by
    simp only [List.map_cons, PyData.eqvAll, eqv_P, eqvAll_P s t]
    by_cases h : p = q <;> by_cases k : s = t <;> simp [h, k]
theorem lay_P : ∀ s : List (Int × Int), PyData.canLayAll0 (s.map pyP) = true ∧ PyData.depthAll (s.map pyP) ≤ 1
  | [] => ⟨rfl, by decide⟩
  | p :: s => by
    obtain ⟨h1, h2⟩ := lay_P s
    refine ⟨?_, ?_⟩
    · rw [List.map_cons]
      unfold PyData.canLayAll0
      rw [h1]
      rfl
    · rw [List.map_cons]
      unfold PyData.depthAll
      exact Nat.max_le.mpr ⟨Nat.le_of_eq rfl, h2⟩
theorem shaped_P (p : Int × Int) : SeqAt.shaped (pyP p) = true := by rfl
theorem shaped_Ps (s : List (Int × Int)) : SeqAt.shaped (.list (s.map pyP)) = true ∧ SeqAt.shaped (.tuple (s.map pyP)) = true := by
  obtain ⟨h1, h2⟩ := lay_P s
  refine ⟨?_, ?_⟩
  · unfold SeqAt.shaped PyData.canLay0 PyData.depth
    rw [h1]
    simp
    omega
  · unfold SeqAt.shaped PyData.canLay0 PyData.depth
    rw [h1]
    simp
    omega
theorem any_P (p : Int × Int) : ∀ s : List (Int × Int), ((s.map pyP).any fun z => PyData.eqv z (pyP p)) = decide (p ∈ s)
  | [] => by simp
  | q :: s => by
    rw [List.map_cons, List.any_cons, any_P p s, eqv_P]
    by_cases h : q = p
    · subst h
      simp
    · have h' : ¬ p = q := fun z => h z.symm
      simp [h, h']
theorem inP (neg : Bool) (p : Int × Int) (s : List (Int × Int)) : fInB neg (tupP p) (.tup (s.map tupP)) = some (.val (.bl (if neg = true then !decide (p ∈ s) else decide (p ∈ s)))) := by
  have e0 : fInA neg (tupP p) (.tup (s.map tupP)) = none := by
    simp [fInA, fOr, fDIn, fIn, tupP, flatD]
  have e1 : toPy (.tup (s.map tupP)) = some (.tuple (s.map pyP)) := by
    unfold toPy
    rw [toPys_P]
    rfl
  unfold fInB fOr
  rw [e0]
  simp only [fInDT, toPy_P, e1, shaped_P, (shaped_Ps s).1, Bool.and_self, if_true, any_P]
theorem eqPs (s t : List (Int × Int)) : fEq (.tup (s.map tupP)) (.tup (t.map tupP)) = some (.val (.bl (decide (s = t)))) := by
  have e1 : ∀ s : List (Int × Int), toPy (.tup (s.map tupP)) = some (.tuple (s.map pyP)) := fun s => by
    unfold toPy
    rw [toPys_P]
    rfl
  have e2 : PyData.eqv (.tuple (s.map pyP)) (.tuple (t.map pyP)) = decide (s = t) := by
    unfold PyData.eqv
    exact eqvAll_P s t
  simp only [fEq, e1, Option.bind, (shaped_Ps s).2, (shaped_Ps t).2, Bool.and_self, if_true, e2]
theorem nePs (s t : List (Int × Int)) : fNe (.tup (s.map tupP)) (.tup (t.map tupP)) = some (.val (.bl (!decide (s = t)))) := by
  have e1 : ∀ s : List (Int × Int), toPy (.tup (s.map tupP)) = some (.tuple (s.map pyP)) := fun s => by
    unfold toPy
    rw [toPys_P]
    rfl
  have e2 : PyData.eqv (.tuple (s.map pyP)) (.tuple (t.map pyP)) = decide (s = t) := by
    unfold PyData.eqv
    exact eqvAll_P s t
  simp only [fNe, e1, Option.bind, (shaped_Ps s).2, (shaped_Ps t).2, Bool.and_self, if_true, e2]
end VM

end
section
open PySem PySem.Spec VL L2
namespace VM
open VG
theorem look_many (m : Nat) (s : List (Int × Int)) : (rvF m s).lookup (Str.ofString "many") = some (D.int m) := by kernel_rfl
theorem look_pairs (m : Nat) (s : List (Int × Int)) : (rvF m s).lookup (Str.ofString "pairs") = some (D.tup (s.map tupP)) := by kernel_rfl
theorem fld_many {a : M} {ρ ρ1 : Rho} {o : O} (m : Nat) (s : List (Int × Int)) (h : a ρ = some (.ok o, ρ1)) (e : o.frz = rivD m s) : mFld [5] "many" a ρ = some (.ok (.val (.int m)), ρ1) := by
  simp [mFld, h, bnd, e, rivD, look_many]
theorem fld_pairs {a : M} {ρ ρ1 : Rho} {o : O} (m : Nat) (s : List (Int × Int)) (h : a ρ = some (.ok o, ρ1)) (e : o.frz = rivD m s) : mFld [5] "pairs" a ρ = some (.ok (.val (.tup (s.map tupP))), ρ1) := by
  simp [mFld, h, bnd, e, rivD, look_pairs]
theorem var_run {i : Nat} {ρ : Rho} {d : D} (h : ρ[i]? = some (some (.val d))) : mVar i ρ = some (.ok (.val d), ρ) := by simp [mVar, h]
theorem isort_two (i j : Int) : isort [i, j] = [min i j, max i j] := by
  unfold isort isort isort setIn
  by_cases h : i ≤ j
  · simp [h, setIn, Int.min_eq_left h, Int.max_eq_right h]
  · have h' : j ≤ i := by omega
    simp [h, setIn, Int.min_eq_right h', Int.max_eq_left h']
theorem intsD_map : ∀ ns : List Int, intsD (ns.map .int) = some ns
  | [] => rfl
  | n :: ns => by simp [intsD, intsD_map ns]
theorem sorts_tup (ns : List Int) : fSorts [.tup (ns.map .int)] = some (.lst ((isort ns).map .int)) := by
  simp [fSorts, fOr1, fSortI, fSortP, fSortTI, intsD_map]
end VM

end
section
open PySem PySem.Spec VL L2
namespace VM
open VG
theorem eqV_int (a b : Int) : eqV (.int a) (.int b) = decide (a = b) := by
  by_cases h : a = b <;> simp [eqV, h]
theorem in_pair (i : Int) (p : Int × Int) : fInB false (.int i) (tupP p) = some (.val (.bl (decide (i = p.1 ∨ i = p.2)))) := by
  by_cases h1 : i = p.1 <;> by_cases h2 : i = p.2 <;> simp [fInB, fOr, fInA, fDIn, fIn, tupP, flatD, toV, inV, eqV_int, h1, h2]
  all_goals omega
def nearOf (i : Int) (p : Int × Int) : List Int := [p.1, p.2].filter fun o => decide (i = p.1 ∨ i = p.2) && !decide (o = i)
def near (m : Nat) (s : List (Int × Int)) (i : Int) : List Int := ((List.range m).map fun (o : Nat) => (o : Int)).filter fun o => !decide (o = i) && decide ((min i o, max i o) ∈ s)
theorem sorts_lst (ns : List Int) : fSorts [.lst (ns.map .int)] = some (.lst ((isort ns).map .int)) := by
  simp [fSorts, fOr1, fSortI, intsD_map]
theorem mem_near {m : Nat} {s : List (Int × Int)} (g : Good m s) {i : Int} (hi : 0 ≤ i ∧ i < m) (o : Int) : o ∈ s.flatMap (nearOf i) ↔ o ∈ near m s i := by
  unfold near nearOf
  simp only [List.mem_flatMap, List.mem_filter, List.mem_map, List.mem_range, List.mem_cons, List.not_mem_nil, or_false, Bool.and_eq_true, decide_eq_true_eq, Bool.not_eq_true', decide_eq_false_iff_not]
  constructor
  · rintro ⟨p, hp, ho, hi', ne⟩
    have b := g.bd p hp
    have e : (min i o, max i o) = p := by
      rcases ho with rfl | rfl <;> rcases hi' with rfl | rfl
      · exact absurd rfl ne
      · exact Prod.ext (by simp; omega) (by simp; omega)
      · exact Prod.ext (by simp; omega) (by simp; omega)
      · exact absurd rfl ne
    refine ⟨⟨o.toNat, by omega, by omega⟩, ne, ?_⟩
    rw [e]
    exact hp
  · rintro ⟨⟨k, hk, rfl⟩, ne, hp⟩
    refine ⟨_, hp, ?_, ?_, ne⟩
    · simp only
      omega
    · simp only
      omega
theorem nodup_near {m : Nat} {s : List (Int × Int)} (g : Good m s) (i : Int) : (s.flatMap (nearOf i)).Nodup := by
  unfold List.Nodup
  rw [List.pairwise_flatMap]
  constructor
  · intro p hp
    have b := g.bd p hp
    unfold nearOf
    refine List.Pairwise.filter _ ?_
    simp
    omega
  · refine g.up.imp_of_mem fun {p q} hp hq h x hx y hy e => ?_
    subst e
    have bp := g.bd p hp
    have bq := g.bd q hq
    unfold nearOf at hx hy
    simp only [List.mem_filter, List.mem_cons, List.not_mem_nil, or_false, Bool.and_eq_true, decide_eq_true_eq, Bool.not_eq_true', decide_eq_false_iff_not] at hx hy
    have k := SrtO.lexB_iff.mp h
    omega
theorem near_eq {m : Nat} {s : List (Int × Int)} (g : Good m s) {i : Int} (hi : 0 ≤ i ∧ i < m) : isort (s.flatMap (nearOf i)) = near m s i := by
  have up : (near m s i).Pairwise (· ≤ ·) := by
    unfold near
    refine List.Pairwise.filter _ ?_
    rw [List.pairwise_map]
    exact List.pairwise_lt_range.imp fun {a b} h => by omega
  have nd : (near m s i).Nodup := by
    unfold near List.Nodup
    refine List.Pairwise.filter _ ?_
    rw [List.pairwise_map]
    exact List.pairwise_lt_range.imp fun {a b} h => by omega
  exact (isort_only ((List.perm_ext_iff_of_nodup nd (nodup_near g i)).mpr fun o => (mem_near g hi o).symm) up).symm
end VM

end
section
open PySem PySem.Spec VL L2
namespace VM
open VG
def pairsM : M := mFld [5] "pairs" (mVar 0)
def manyM : M := mFld [5] "many" (mVar 0)
def giR (m : Nat) (s : List (Int × Int)) (i : Int) (x y : Option O) : Rho := [some (.val (rivD m s)), some (.val (.int i)), x, y]
def giT : M := mAnd (mOp2 (fInB false) (mVar 1) (mVar 2)) (mOp2 fNe (mVar 3) (mVar 1))
theorem giT_run (m : Nat) (s : List (Int × Int)) (i o : Int) (p : Int × Int) : giT (giR m s i (some (.val (tupP p))) (some (.val (.int o)))) = some (.ok (.val (.bl (decide (i = p.1 ∨ i = p.2) && !decide (o = i)))), giR m s i (some (.val (tupP p))) (some (.val (.int o)))) := by
  have e := in_pair i p
  have n := ne_int o i
  unfold giT giR
  by_cases h : i = p.1 ∨ i = p.2
  · simp [h] at e
    simp [mFn0, mFn, sSeq, sThen, sIf, sRet, sNx, sAsgV, setV, mOp2, mOpL, look, O.pk, mVar, mC, bnd, mCB, aCons, aNil, dsOf, fOr1, fLen, fIntOf, fCmp, fInt, fIntC, O.frz, fIxA, fAddA, fMulA, fOr, fIx, pinsAux, fin, O.isOwn, bMod, bMul, bDivW, bPow, mTup, mCall, splitIo, aSl, aIo, dsOnly, mAnd, e, n, h]
  · simp [h] at e
    have h' : ¬ (i = p.1) ∧ ¬ (i = p.2) := ⟨fun z => h (.inl z), fun z => h (.inr z)⟩
    simp [mFn0, mFn, sSeq, sThen, sIf, sRet, sNx, sAsgV, setV, mOp2, mOpL, look, O.pk, mVar, mC, bnd, mCB, aCons, aNil, dsOf, fOr1, fLen, fIntOf, fCmp, fInt, fIntC, O.frz, fIxA, fAddA, fMulA, fOr, fIx, pinsAux, fin, O.isOwn, bMod, bMul, bDivW, bPow, mTup, mCall, splitIo, aSl, aIo, dsOnly, mAnd, e, n, h', h]
theorem giLc (m : Nat) (s : List (Int × Int)) (i : Int) (hl : s.length ≤ 60) : mLc2 (iWalkA pairsM) [2, 3] (.nm 2) (iWalkA (mVar 2)) [3] (.nm 3) giT (mVar 3) (giR m s i none none) = some (.ok (.lst ((s.flatMap (nearOf i)).map .int)), giR m s i none none) := by
  have it : iWalkA pairsM (giR m s i none none) = some (s.map tupP, giR m s i none none) := by
    have f := fld_pairs (a := mVar 0) (ρ := giR m s i none none) m s (var_run rfl) rfl
    unfold iWalkA pairsM
    rw [f]
    rfl
  rw [mLc2_run it (by rfl)]
  have out := lcOut_inv (vs := [2, 3]) (p := .nm 2) (mi := iWalkA (mVar 2)) (vs1 := [3]) (p1 := .nm 3) (mt := giT) (me := mVar 3) (ρ := giR m s i none none) (fun d => giR m s i (some (.val d)) none) (fun d => match d with | .tup es => es | _ => [])
    (fun d => match pairD d with | some p => (nearOf i p).map .int | none => []) (s.map tupP) [] 1000 ?_ ?_
  · rw [out]
    simp [List.flatMap_map, List.map_flatMap, tupP, VL.pairD]
  · intro d hd
    obtain ⟨p, hp, rfl⟩ := List.mem_map.mp hd
    refine ⟨by simp [bindP, setV, giR], by simp [wipeR, giR], by simp [iWalkA, mVar, giR, O.frz, walkD, seqD, tupP], by rfl, fun acc hacc => ?_, ?_⟩
    · have inn := lcIn_inv (vs := [3]) (p := .nm 3) (mt := giT) (me := mVar 3) (ρ := giR m s i (some (.val (tupP p))) none) (fun e => giR m s i (some (.val (tupP p))) (some (.val e))) (fun e => match e with | .int o => decide (i = p.1 ∨ i = p.2) && !decide (o = i) | _ => false) (fun e => e) [.int p.1, .int p.2] acc ?_ ?_
      · show lcIn _ _ _ _ [.int p.1, .int p.2] _ acc = _
        rw [inn]
        have : pairD (tupP p) = some p := rfl
        rw [this]
        unfold nearOf
        simp only [List.map_id', List.filter_cons, List.filter_nil]
        congr 2
        split <;> split <;> rfl
      · intro e he
        have : ∃ o, e = .int o := by
          rcases List.mem_cons.mp he with h | h
          · exact ⟨_, h⟩
          · exact ⟨_, List.mem_singleton.mp h⟩
        obtain ⟨o, rfl⟩ := this
        exact ⟨by simp [bindP, setV, giR], by simp [wipeR, giR], giT_run m s i o p, fun _ => ⟨.val (.int o), by simp [mVar, giR], rfl⟩⟩
      · simp only [List.length_cons, List.length_nil]
        have : (match tupP p with | .tup es => es | _ => ([] : List D)).length = 2 := rfl
        simp only [tupP, List.length_cons, List.length_nil] at hacc
        omega
    · have : pairD (tupP p) = some p := rfl
      rw [this]
      simp only [List.length_map]
      exact List.length_filter_le _ _
  · have : ((s.map tupP).map fun d => (match d with | .tup es => es | _ => ([] : List D)).length).sum = 2 * s.length := by
      clear it hl
      induction s with
      | nil => rfl
      | cons p s ih =>
        rw [List.map_cons, List.map_cons, List.sum_cons, ih]
        simp [tupP]
        omega
    simp only [List.length_nil]
    omega
theorem gi_eq : m_Rivals___getitem__ = mFn0 2 4 (sSeq (sIf (mNot (mTru (mCall m_is_integer (aCons (mVar 1) (aCons (mC (.int (0))) (aCons manyM aNil)))))) sNever sNx) (sRet (mCB fSorts (aCons (mLc2 (iWalkA pairsM) [2, 3] (.nm 2) (iWalkA (mVar 2)) [3] (.nm 3) giT (mVar 3)) aNil)))) := rfl
theorem getitem (m : Nat) (s : List (Int × Int)) (g : Good m s) (i : Int) (hi : 0 ≤ i ∧ i < m) : m_Rivals___getitem__ [.val (rivD m s), .val (.int i)] = some (.ok (.lst ((near m s i).map .int)), [.val (rivD m s), .val (.int i)]) := by
  have l := giLc m s i g.few
  have f := fld_many (a := mVar 0) (ρ := giR m s i none none) m s (var_run rfl) rfl
  have e := isint i 0 m
  simp [hi] at e
  rw [gi_eq]
  have so := sorts_lst (s.flatMap (nearOf i))
  rw [near_eq g hi] at so
  generalize mLc2 (iWalkA pairsM) [2, 3] (.nm 2) (iWalkA (mVar 2)) [3] (.nm 3) giT (mVar 3) = L at l ⊢
  change manyM _ = _ at f
  generalize manyM = L2 at f ⊢
  generalize hq : (s.flatMap (nearOf i)).map D.int = Z at l so
  unfold giR at l f
  simp [mFn0, mFn, sSeq, sThen, sIf, sRet, sNx, sAsgV, setV, mOp2, mOpL, look, O.pk, mVar, mC, bnd, mCB, aCons, aNil, dsOf, fOr1, fLen, fIntOf, fCmp, fInt, fIntC, O.frz, fIxA, fAddA, fMulA, fOr, fIx, pinsAux, fin, O.isOwn, bMod, bMul, bDivW, bPow, mTup, mCall, splitIo, aSl, aIo, dsOnly, mNot, mTru, truD, f, l, e, so]
end VM

end
section
open PySem PySem.Spec VL L2
namespace VM
open VG
theorem min2 (i j : Int) : fMin2 [.int i, .int j] = some (.val (.int (min i j))) := by
  by_cases h : j < i
  · simp [fMin2, h, Int.min_eq_right (Int.le_of_lt h)]
  · simp [fMin2, h, Int.min_eq_left (Int.not_lt.mp h)]
theorem max2 (i j : Int) : fMax2 [.int i, .int j] = some (.val (.int (max i j))) := by
  by_cases h : j > i
  · simp [fMax2, h, Int.max_eq_right (Int.le_of_lt h)]
  · simp [fMax2, h, Int.max_eq_left (Int.not_lt.mp h)]
theorem pl_0 (m : Nat) (s : List (Int × Int)) : fIxA (plainD m s) (.int 0) = some (.val (.int m)) := by rfl
theorem pl_1 (m : Nat) (s : List (Int × Int)) : fIxA (plainD m s) (.int 1) = some (.val (.tup (s.map tupP))) := by rfl
def isIn (s : List (Int × Int)) (i j : Int) : Bool := decide ((min i j, max i j) ∈ s)
theorem lawAre (m : Nat) (s : List (Int × Int)) (i j : Int) : m_law_are [.val (plainD m s), .val (.int i), .val (.int j)] = some (.ok (.val (.bl (isIn s i j))), [.val (plainD m s), .val (.int i), .val (.int j)]) := by
  have k : fInB false (D.tup [D.int (min i j), D.int (max i j)]) (D.tup (List.map tupP s)) = some (O.val (D.bl (decide ((min i j, max i j) ∈ s)))) := by simpa [tupP] using inP false (min i j, max i j) s
  have p := pl_1 m s
  unfold isIn
  have e1 : m_law_are = mFn0 3 3 (sRet (mOp2 (fInB false) (mTup (aCons (mCB fMin2 (aCons (mCB fIntOf (aCons (mVar 1) aNil)) (aCons (mCB fIntOf (aCons (mVar 2) aNil)) aNil))) (aCons (mCB fMax2 (aCons (mCB fIntOf (aCons (mVar 1) aNil)) (aCons (mCB fIntOf (aCons (mVar 2) aNil)) aNil))) aNil))) (mOp2 fIxA (mVar 0) (mC (.int (1)))))) := rfl
  rw [e1]
  generalize plainD m s = PL at p ⊢
  have e2 : mOp2 fIxA (mVar 0) (mC (.int 1)) [some (.val PL), some (.val (.int i)), some (.val (.int j))] = some (.ok (.val (.tup (s.map tupP))), [some (.val PL), some (.val (.int i)), some (.val (.int j))]) := by
    simp [mOp2, mVar, mC, bnd, O.frz, p]
  generalize mOp2 fIxA (mVar 0) (mC (.int 1)) = L at e2 ⊢
  simp [mFn0, mFn, sSeq, sThen, sIf, sRet, sNx, sAsgV, setV, mOp2, mOpL, look, O.pk, mVar, mC, bnd, mCB, aCons, aNil, dsOf, fOr1, fLen, fIntOf, fCmp, fInt, fIntC, O.frz, fIxA, fAddA, fMulA, fOr, fIx, pinsAux, fin, O.isOwn, bMod, bMul, bDivW, bPow, mTup, mCall, splitIo, aSl, aIo, dsOnly, min2, max2, e2, k]
theorem ne_bl (a b : Bool) : fNe (.bl a) (.bl b) = some (.val (.bl (!decide (a = b)))) := by
  cases a <;> cases b <;> kernel_rfl
theorem ints_py : ∀ ns : List Int, toPys (ns.map .int) = some (ns.map PyData.int) ∧ PyData.canLayAll0 (ns.map PyData.int) = true ∧ PyData.depthAll (ns.map PyData.int) = 0 ∧ PyData.eqvAll (ns.map PyData.int) (ns.map PyData.int) = true
  | [] => ⟨rfl, rfl, rfl, rfl⟩
  | n :: ns => by
    obtain ⟨h1, h2, h3, h4⟩ := ints_py ns
    refine ⟨by simp [toPys, toPy, h1], ?_, ?_, by simp [PyData.eqvAll, PyData.eqv, h4]⟩
    · rw [List.map_cons]
      unfold PyData.canLayAll0
      rw [h2]
      rfl
    · rw [List.map_cons]
      unfold PyData.depthAll
      rw [h3]
      rfl
theorem ne_ints (ns : List Int) : fNe (.lst (ns.map .int)) (.lst (ns.map .int)) = some (.val (.bl false)) := by
  obtain ⟨h1, h2, h3, h4⟩ := ints_py ns
  have e : toPy (.lst (ns.map .int)) = some (.list (ns.map PyData.int)) := by
    unfold toPy
    rw [h1]
    rfl
  have sh : SeqAt.shaped (.list (ns.map PyData.int)) = true := by
    unfold SeqAt.shaped PyData.canLay0 PyData.depth
    rw [h2, h3]
    rfl
  have ev : PyData.eqv (.list (ns.map PyData.int)) (.list (ns.map PyData.int)) = true := by
    unfold PyData.eqv
    exact h4
  simp only [fNe, e, Option.bind, sh, Bool.and_self, if_true, ev]
  rfl
/-! ### states of is_fine -/
end VM

end
section
open PySem PySem.Spec VL L2
namespace VM
open VG
theorem makeR {ms : MA} {ρ ρ1 : Rho} {m : Nat} {s : List (Int × Int)} (h : ms ρ = some (.ok [.d (.int m), .d (.tup (s.map tupP))], ρ1)) (h1 : 1 ≤ m) (h8 : m ≤ 8) (g : Good m s) : mMake 5 m_Rivals___init__ ms aNil (fun ds zs => ds ++ zs) 2 0 ρ = some (.ok (.ins 5 (rvF m s)), ρ1) := by
  have k := rinit m s h1 h8 g
  generalize m_Rivals___init__ = fn at k ⊢
  simp [mMake, h, bnd, aNil, dsOnly, k]
end VM

end
section
open PySem PySem.Spec VL L2
namespace VL
/-! ### mirrors told by what they give: each rule leaves the slots as they are -/
abbrev RunE (m : M) (ρ : Rho) (o : O) : Prop := m ρ = some (.ok o, ρ)
abbrev RunA (ms : MA) (ρ : Rho) (ds : List D) : Prop := ms ρ = some (.ok (ds.map AI.d), ρ)
abbrev RunI (mi : MI) (ρ : Rho) (ds : List D) : Prop := mi ρ = some (ds, ρ)
abbrev RunS (s : MS) (p : List Nat) (ρ : Rho) (f : Fl) (ρ1 : Rho) : Prop := s p ρ = some (.ok f, ρ1)
section
variable {ρ ρ1 ρ2 : Rho} {a b c : M} {ms : MA} {mi : MI} {o x y : O} {d : D} {ds es : List D} {i : Nat} {p : List Nat} {s t : MS} {fl : Fl}
theorem e_c : RunE (mC d) ρ (.val d) := rfl
theorem e_v (h : ρ[i]? = some (some (.val d))) : RunE (mVar i) ρ (.val d) := by
  unfold RunE mVar
  rw [h]
theorem e_op {f : D → D → Option O} (h1 : RunE a ρ x) (h2 : RunE b ρ y) (h : f x.frz y.frz = some o) : RunE (mOp2 f a b) ρ o := by
  unfold RunE mOp2
  rw [h1]
  simp only [bnd]
  rw [h2]
  simp only [h]
  rfl
theorem e_un {f : D → Option O} (h1 : RunE a ρ x) (h : f x.frz = some o) : RunE (mUn f a) ρ o := by
  unfold RunE mUn
  rw [h1]
  simp only [bnd, h]
  rfl
theorem a_nil : RunA aNil ρ [] := rfl
theorem a_cons (h1 : RunE a ρ x) (h2 : RunA ms ρ ds) : RunA (aCons a ms) ρ (x.frz :: ds) := by
  unfold RunA aCons
  rw [h1]
  simp only [bnd]
  rw [h2]
  rfl
theorem dsOf_d (ρ : Rho) : ∀ ds : List D, dsOf ρ (ds.map AI.d) = some ds
  | [] => rfl
  | d :: ds => by
    simp [dsOf, dsOf_d ρ ds]
theorem splitIo_d : ∀ ds : List D, splitIo (ds.map AI.d) = some (ds, none)
  | [] => rfl
  | d :: ds => by
    simp [splitIo, splitIo_d ds]
theorem e_cb {f : List D → Option O} (h1 : RunA ms ρ ds) (h : f ds = some o) : RunE (mCB f ms) ρ o := by
  unfold RunE mCB
  rw [h1]
  simp only [bnd, dsOf_d, Option.bind, h]
  rfl
theorem e_tup (h1 : RunA ms ρ ds) (hl : ds.length ≤ 100000) : RunE (mTup ms) ρ (.val (.tup ds)) := by
  unfold RunE mTup
  rw [h1]
  simp only [bnd, dsOf_d, Option.bind, if_pos hl]
theorem e_lst (h1 : RunA ms ρ ds) (hl : ds.length ≤ 100000) : RunE (mLst ms) ρ (.lst ds) := by
  unfold RunE mLst
  rw [h1]
  simp only [bnd, dsOf_d, Option.bind, if_pos hl]
theorem e_call {fn : Fn} {os : List O} (h1 : RunA ms ρ ds) (h : fn (ds.map .val) = some (.ok o, os)) : RunE (mCall fn ms) ρ o := by
  unfold RunE mCall
  rw [h1]
  simp only [bnd, splitIo_d, h]
theorem e_and {u v : Bool} (h1 : RunE a ρ (.val (.bl u))) (h2 : u = true → RunE b ρ (.val (.bl v))) : RunE (mAnd a b) ρ (.val (.bl (u && v))) := by
  unfold RunE mAnd
  rw [h1]
  cases u with
  | true => exact h2 rfl
  | false => rfl
theorem e_or {u v : Bool} (h1 : RunE a ρ (.val (.bl u))) (h2 : u = false → RunE b ρ (.val (.bl v))) : RunE (mOr a b) ρ (.val (.bl (u || v))) := by
  unfold RunE mOr
  rw [h1]
  cases u with
  | false => exact h2 rfl
  | true => rfl
theorem e_not {u : Bool} (h1 : RunE a ρ (.val (.bl u))) : RunE (mNot a) ρ (.val (.bl (!u))) := by
  unfold RunE mNot
  rw [h1]
  rfl
theorem e_tru {u : Bool} (h1 : RunE a ρ x) (h : truD x.frz = some u) : RunE (mTru a) ρ (.val (.bl u)) := by
  unfold RunE mTru
  rw [h1]
  simp only [bnd, h]
  rfl
theorem e_if {u : Bool} (h1 : RunE a ρ (.val (.bl u))) (h2 : u = true → RunE b ρ o) (h3 : u = false → RunE c ρ o) : RunE (mIf a b c) ρ o := by
  unfold RunE mIf
  rw [h1]
  cases u with
  | true => exact h2 rfl
  | false => exact h3 rfl
theorem e_sl {lo hi : Rho → Option (Rs (Option Int) × Rho)} {l u : Option Int} (h1 : RunE a ρ x) (h2 : lo ρ = some (.ok l, ρ)) (h3 : hi ρ = some (.ok u, ρ)) (h : fSl x.frz l u = some o) : RunE (mSl a lo hi) ρ o := by
  unfold RunE mSl
  rw [h1]
  simp only [bnd]
  rw [h2]
  simp only [bnd]
  rw [h3]
  simp only [bnd, h]
  rfl
theorem o_none : oNone ρ = some (.ok none, ρ) := rfl
theorem o_part {k : Int} (h1 : RunE a ρ x) (h : x.frz = .int k) : oPart a ρ = some (.ok (some k), ρ) := by
  unfold oPart
  rw [h1]
  simp only [bnd, h]
theorem i_rng {n : Nat} (h : RunA ms ρ [.int (n : Int)]) (hn : n ≤ 1000000) : RunI (iRange1 ms) ρ ((List.range n).map fun (j : Nat) => D.int (j : Int)) := iRange1_run h hn
theorem i_wlk (h : RunE a ρ o) (hw : walkD o.frz = some ds) : RunI (iWalkA a) ρ ds := by
  unfold RunI iWalkA
  rw [h]
  simp only [hw]
theorem i_enu {v : D} (h : RunA ms ρ [v]) (hs : seqD v = some ds) : RunI (iEnu ms) ρ (enumD 0 ds) := by
  unfold RunI iEnu
  rw [h]
  simp only [List.map_cons, List.map_nil, hs]
theorem i_zip {v w : D} (h : RunA ms ρ [v, w]) (h1 : seqD v = some ds) (h2 : seqD w = some es) : RunI (iZip ms) ρ (zipD ds es) := by
  unfold RunI VL.iZip
  rw [h]
  simp only [List.map_cons, List.map_nil, h1, h2]
/-- a comprehension -/
theorem e_lc {vs : List Nat} {q : Pat} {mt me : M} (st : D → Rho) (u : D → Bool) (g : D → D) (hi : RunI mi ρ ds) (hc : clean vs ρ = true) (hl : ds.length ≤ 100000)
    (h : ∀ d ∈ ds, bindP [] q d ρ = some (st d) ∧ wipeR (st d) vs = ρ ∧ RunE mt (st d) (.val (.bl (u d))) ∧ (u d = true → ∃ o, RunE me (st d) o ∧ o.frz = g d)) : RunE (mLc mi vs q mt me) ρ (.lst ((ds.filter u).map g)) := by
  unfold RunE
  rw [mLc_run hi hc hl, lcLoop_inv st u g ds [] h]
  rfl
theorem e_lca {vs : List Nat} {q : Pat} {me : M} (st : D → Rho) (g : D → D) (hi : RunI mi ρ ds) (hc : clean vs ρ = true) (hl : ds.length ≤ 100000)
    (h : ∀ d ∈ ds, bindP [] q d ρ = some (st d) ∧ wipeR (st d) vs = ρ ∧ ∃ o, RunE me (st d) o ∧ o.frz = g d) : RunE (mLc mi vs q mYes me) ρ (.lst (ds.map g)) := by
  unfold RunE
  rw [mLc_run hi hc hl, lcLoop_all st g ds [] h]
  rfl
theorem s_seq (h1 : RunS s p ρ .nx ρ1) (h2 : RunS t p ρ1 fl ρ2) : RunS (sSeq s t) p ρ fl ρ2 := by
  unfold RunS sSeq
  rw [h1]
  exact h2
theorem s_seqR (h1 : RunS s p ρ (.ret o) ρ1) : RunS (sSeq s t) p ρ (.ret o) ρ1 := by
  unfold RunS sSeq
  rw [h1]
  rfl
theorem s_set (h1 : RunE a ρ o) (hi : i < ρ.length) (hp : i ∉ p) : RunS (sAsgV i a) p ρ .nx (ρ.set i (some (.val o.frz))) := by
  unfold RunS sAsgV
  rw [h1]
  simp only [bnd, setV, if_neg hp, if_pos hi]
  rfl
theorem s_setO (h1 : RunE a ρ o) (hi : i < ρ.length) (hp : i ∉ p) : RunS (sAsgO i a) p ρ .nx (ρ.set i (some o)) := by
  unfold RunS sAsgO
  rw [h1]
  simp only [bnd, setV, if_neg hp, if_pos hi]
  rfl
theorem s_drop (h1 : RunE a ρ o) : RunS (sDrop a) p ρ .nx ρ := by
  unfold RunS sDrop
  rw [h1]
  rfl
theorem s_ret (h1 : RunE a ρ o) : RunS (sRet a) p ρ (.ret o) ρ := by
  unfold RunS sRet
  rw [h1]
  rfl
theorem s_nx : RunS sNx p ρ .nx ρ := rfl
theorem s_if {u : Bool} (h1 : RunE a ρ (.val (.bl u))) (h2 : u = true → RunS s p ρ fl ρ1) (h3 : u = false → RunS t p ρ fl ρ1) : RunS (sIf a s t) p ρ fl ρ1 := by
  unfold RunS sIf
  rw [h1]
  cases u with
  | true => exact h2 rfl
  | false => exact h3 rfl
theorem s_ifT (h1 : RunE a ρ (.val (.bl true))) (h2 : RunS s p ρ fl ρ1) : RunS (sIf a s t) p ρ fl ρ1 := s_if h1 (fun _ => h2) nofun
theorem s_ifF (h1 : RunE a ρ (.val (.bl false))) (h2 : RunS t p ρ fl ρ1) : RunS (sIf a s t) p ρ fl ρ1 := s_if h1 nofun fun _ => h2
theorem s_pat {q : Pat} (h1 : RunE a ρ o) (h2 : bindP p q o.frz ρ = some ρ1) : RunS (sAsgP q a) p ρ .nx ρ1 := by
  unfold RunS sAsgP
  rw [h1]
  simp only [bnd, h2]
  rfl
/-- a for, by what holds ahead of each turn -/
theorem s_for {q : Pat} (Iv : Nat → Rho → Prop) (hi : RunI mi ρ ds) (h0 : Iv 0 ρ)
    (h : ∀ (i : Nat) (d : D) (ρ : Rho), ds[i]? = some d → Iv i ρ → ∃ ρ1 ρ2, bindP p q d ρ = some ρ1 ∧ RunS s p ρ1 .nx ρ2 ∧ Iv (i + 1) ρ2) : ∃ ρ', RunS (sFor mi q s) p ρ .nx ρ' ∧ Iv ds.length ρ' :=
  sFor_inv Iv hi h0 fun i d ρ e v => by
    obtain ⟨r1, r2, h1, h2, h3⟩ := h i d ρ e v
    exact ⟨r1, r2, h1, .inl h2, h3⟩
end
theorem pins_val : ∀ (k : Nat) (ds : List D), pinsAux k (ds.map O.val) = []
  | _, [] => rfl
  | k, d :: ds => by
    rw [List.map_cons]
    unfold pinsAux
    exact pins_val (k + 1) ds
theorem fin_val : ∀ (ds : List D) (ρ : Rho), ds.length ≤ ρ.length → fin (ds.map O.val) ρ = some (ds.map O.val)
  | [], ρ, _ => by cases ρ <;> rfl
  | d :: ds, [], h => by simp at h
  | d :: ds, z :: ρ, h => by
    have := fin_val ds ρ (by simpa using h)
    rw [List.map_cons]
    unfold fin
    simp only [O.isOwn]
    rw [this]
    rfl
/-- a def of data alone -/
theorem f_ret {np N : Nat} {body : MS} {ds : List D} {o : O} {ρ' : Rho} (hn : ds.length = np) (hN : np ≤ N) (h : RunS body [] (ds.map (fun d => some (.val d)) ++ List.replicate (N - np) none) (.ret o) ρ') (hl : np ≤ ρ'.length) : mFn0 np N body (ds.map .val) = some (.ok o, ds.map .val) := by
  have e : (ds.map O.val).map some = ds.map fun d => some (O.val d) := by simp
  unfold mFn0 mFn
  rw [if_pos ⟨by rw [List.length_map]; exact hn, hN⟩, pins_val, e, h]
  simp only [fin_val ds ρ' (by omega)]
  rfl
theorem f_nx {np N : Nat} {body : MS} {ds : List D} {ρ' : Rho} (hn : ds.length = np) (hN : np ≤ N) (h : RunS body [] (ds.map (fun d => some (.val d)) ++ List.replicate (N - np) none) .nx ρ') (hl : np ≤ ρ'.length) : mFn0 np N body (ds.map .val) = some (.ok (.val .non), ds.map .val) := by
  have e : (ds.map O.val).map some = ds.map fun d => some (O.val d) := by simp
  unfold mFn0 mFn
  rw [if_pos ⟨by rw [List.length_map]; exact hn, hN⟩, pins_val, e, h]
  simp only [fin_val ds ρ' (by omega)]
  rfl
section
variable {α β : Type} {ρ ρ1 ρ2 : Rho} {mi : MI} {p : List Nat} {s : MS}
theorem lcLoop_m {vs : List Nat} {q : Pat} {mt me : M} {f : α → D} (st : α → Rho) (u : α → Bool) (g : α → D) : ∀ (l : List α) (acc : List D), (∀ x ∈ l, bindP [] q (f x) ρ = some (st x) ∧ wipeR (st x) vs = ρ ∧ RunE mt (st x) (.val (.bl (u x))) ∧ (u x = true → ∃ o, RunE me (st x) o ∧ o.frz = g x)) →
    lcLoop vs q mt me (l.map f) ρ acc = some (.ok (.lst (acc ++ (l.filter u).map g)), ρ)
  | [], acc, _ => by simp [lcLoop]
  | d :: ds, acc, h => by
    obtain ⟨h1, h2, h3, h4⟩ := h d List.mem_cons_self
    have ih := lcLoop_m (vs := vs) (q := q) (mt := mt) (me := me) (f := f) st u g ds
    rw [List.map_cons]
    unfold lcLoop
    rw [h1]
    dsimp only
    rw [h3]
    cases e : u d with
    | true =>
      obtain ⟨o, h5, h6⟩ := h4 e
      simp only [frz_val, h5, h2, h6]
      rw [ih _ fun x hx => h x (List.mem_cons_of_mem _ hx), List.filter_cons_of_pos e]
      simp
    | false =>
      simp only [frz_val, h2]
      rw [ih _ fun x hx => h x (List.mem_cons_of_mem _ hx), List.filter_cons_of_neg (by rw [e]; decide)]
theorem lcIn_m {vs : List Nat} {q : Pat} {mt me : M} {f : α → D} (st : α → Rho) (u : α → Bool) (g : α → D) : ∀ (l : List α) (acc : List D), (∀ x ∈ l, bindP [] q (f x) ρ = some (st x) ∧ wipeR (st x) vs = ρ ∧ RunE mt (st x) (.val (.bl (u x))) ∧ (u x = true → ∃ o, RunE me (st x) o ∧ o.frz = g x)) →
    acc.length + l.length ≤ 100000 → lcIn vs q mt me (l.map f) ρ acc = some (acc ++ (l.filter u).map g, ρ)
  | [], acc, _, _ => by simp [lcIn]
  | d :: ds, acc, h, hl => by
    obtain ⟨h1, h2, h3, h4⟩ := h d List.mem_cons_self
    have ih := lcIn_m (vs := vs) (q := q) (mt := mt) (me := me) (f := f) st u g ds
    rw [List.length_cons] at hl
    rw [List.map_cons]
    unfold lcIn
    rw [h1]
    dsimp only
    rw [h3]
    cases e : u d with
    | true =>
      obtain ⟨o, h5, h6⟩ := h4 e
      have lt : acc.length < 100000 := by omega
      simp only [frz_val, h5, h2, h6, if_pos lt]
      rw [ih _ (fun x hx => h x (List.mem_cons_of_mem _ hx)) (by rw [List.length_append, List.length_singleton]; omega), List.filter_cons_of_pos e]
      simp
    | false =>
      simp only [frz_val, h2]
      rw [ih _ (fun x hx => h x (List.mem_cons_of_mem _ hx)) (by omega), List.filter_cons_of_neg (by rw [e]; decide)]
/-- a comprehension over a list of things that are told by f -/
theorem e_lcm {vs : List Nat} {q : Pat} {mt me : M} {f : α → D} {l : List α} (st : α → Rho) (u : α → Bool) (g : α → D) (hi : RunI mi ρ (l.map f)) (hc : clean vs ρ = true) (hl : l.length ≤ 100000)
    (h : ∀ x ∈ l, bindP [] q (f x) ρ = some (st x) ∧ wipeR (st x) vs = ρ ∧ RunE mt (st x) (.val (.bl (u x))) ∧ (u x = true → ∃ o, RunE me (st x) o ∧ o.frz = g x)) : RunE (mLc mi vs q mt me) ρ (.lst ((l.filter u).map g)) := by
  unfold RunE
  rw [mLc_run hi hc (by rw [List.length_map]; exact hl), lcLoop_m st u g l [] h]
  rfl
theorem e_lcma {vs : List Nat} {q : Pat} {me : M} {f : α → D} {l : List α} (st : α → Rho) (g : α → D) (hi : RunI mi ρ (l.map f)) (hc : clean vs ρ = true) (hl : l.length ≤ 100000)
    (h : ∀ x ∈ l, bindP [] q (f x) ρ = some (st x) ∧ wipeR (st x) vs = ρ ∧ ∃ o, RunE me (st x) o ∧ o.frz = g x) : RunE (mLc mi vs q mYes me) ρ (.lst (l.map g)) := by
  have := e_lcm (vs := vs) (q := q) (mt := mYes) (me := me) st (fun _ => true) g hi hc hl fun x hx => ⟨(h x hx).1, (h x hx).2.1, rfl, fun _ => (h x hx).2.2⟩
  rw [List.filter_eq_self.mpr fun _ _ => rfl] at this
  exact this
/-- two clauses, a condition on the second -/
theorem e_lc2m {vs vs1 : List Nat} {q q1 : Pat} {mi1 : MI} {mt me : M} {f : α → D} {k : α → β → D} {l : List α} (top : Nat) (st : α → Rho) (es : α → List β) (st1 : α → β → Rho) (u : α → β → Bool) (g : α → β → D) (hi : RunI mi ρ (l.map f)) (hc : clean vs ρ = true)
    (hl : (l.map fun x => (es x).length).sum ≤ 100000)
    (h : ∀ x ∈ l, bindP [] q (f x) ρ = some (st x) ∧ wipeR (st x) vs = ρ ∧ RunI mi1 (st x) ((es x).map (k x)) ∧ clean vs1 (st x) = true ∧
      (∀ y ∈ es x, bindP [] q1 (k x y) (st x) = some (st1 x y) ∧ wipeR (st1 x y) vs1 = st x ∧ RunE mt (st1 x y) (.val (.bl (u x y))) ∧ (u x y = true → ∃ o, RunE me (st1 x y) o ∧ o.frz = g x y))) :
    RunE (mLc2 mi vs q mi1 vs1 q1 mt me) ρ (.lst (l.flatMap fun x => ((es x).filter (u x)).map (g x))) := by
  have go : ∀ (l : List α) (acc : List D), (∀ x ∈ l, bindP [] q (f x) ρ = some (st x) ∧ wipeR (st x) vs = ρ ∧ RunI mi1 (st x) ((es x).map (k x)) ∧ clean vs1 (st x) = true ∧
      (∀ y ∈ es x, bindP [] q1 (k x y) (st x) = some (st1 x y) ∧ wipeR (st1 x y) vs1 = st x ∧ RunE mt (st1 x y) (.val (.bl (u x y))) ∧ (u x y = true → ∃ o, RunE me (st1 x y) o ∧ o.frz = g x y))) →
      acc.length + (l.map fun x => (es x).length).sum ≤ 100000 → lcOut vs q mi1 vs1 q1 mt me (l.map f) ρ acc = some (acc ++ l.flatMap fun x => ((es x).filter (u x)).map (g x), ρ) := by
    intro l
    induction l with
    | nil => intro acc _ _; simp [lcOut]
    | cons x l ih =>
      intro acc h hl
      obtain ⟨h1, h2, h3, h4, h5⟩ := h x List.mem_cons_self
      rw [List.map_cons, List.sum_cons] at hl
      rw [List.map_cons]
      unfold lcOut
      rw [h1]
      dsimp only
      rw [h3]
      dsimp only
      rw [if_pos h4, lcIn_m (st1 x) (u x) (g x) (es x) acc h5 (by omega)]
      dsimp only
      rw [h2, ih _ (fun y hy => h y (List.mem_cons_of_mem _ hy)) (by
        have := List.length_filter_le (u x) (es x)
        rw [List.length_append, List.length_map]
        omega)]
      simp
  unfold RunE
  rw [mLc2_run hi hc, go l [] h (by simpa using hl)]
  rfl
theorem s_form {q : Pat} {f : α → D} {l : List α} (Iv : Nat → Rho → Prop) (hi : RunI mi ρ (l.map f)) (h0 : Iv 0 ρ)
    (h : ∀ (i : Nat) (x : α) (ρ : Rho), l[i]? = some x → Iv i ρ → ∃ ρ1 ρ2, bindP p q (f x) ρ = some ρ1 ∧ RunS s p ρ1 .nx ρ2 ∧ Iv (i + 1) ρ2) : ∃ ρ', RunS (sFor mi q s) p ρ .nx ρ' ∧ Iv l.length ρ' := by
  have := s_for (s := s) (p := p) (q := q) Iv hi h0 fun i d ρ e v => by
    rw [List.getElem?_map] at e
    cases q : l[i]? with
    | none => rw [q] at e; cases e
    | some x =>
      rw [q] at e
      cases e
      exact h i x ρ q v
  rw [List.length_map] at this
  exact this
end
theorem bools_map {α : Type} (l : List α) (g : α → Bool) : bools (l.map fun x => D.bl (g x)) = some (l.map g) := by
  induction l with
  | nil => rfl
  | cons x l ih => simp [bools, ih]
theorem fAny_map {α : Type} (l : List α) (g : α → Bool) : fAny [.lst (l.map fun x => .bl (g x))] = some (.val (.bl (l.any g))) := by
  show (bools (l.map fun x => D.bl (g x))).map _ = _
  rw [bools_map]
  simp [List.any_map, Function.comp_def]
end VL

end
section
namespace VM
abbrev Ad := Nat → Nat → Bool
/-- may the next one be in x? -/
def okc (A : Ad) (c : List Nat) (x : Nat) : Bool := (List.range c.length).all fun i => !(c.getD i 0 == x && A i c.length)
def tryP (A : Ad) (L : Nat) : Nat → List Nat → Int
  | 0, _ => 1
  | k + 1, c => ((List.range L).map fun x => if okc A c x then tryP A L k (c ++ [x]) else 0).sum
def nr (r : List Nat) : Nat := r.foldr (fun x n => max (x + 1) n) 0
def ch (A : Ad) (r : List Nat) : List (List Nat) := ((List.range (nr r + 1)).filter (okc A r)).map fun x => r ++ [x]
def ext (A : Ad) : Nat → List Nat → List (List Nat)
  | 0, r => [r]
  | k + 1, r => (ch A r).flatMap (ext A k)
def grow (A : Ad) : Nat → List (List Nat)
  | 0 => [[]]
  | k + 1 => (grow A k).flatMap (ch A)
theorem grow_ext (A : Ad) : ∀ k j, (grow A j).flatMap (ext A k) = grow A (j + k)
  | 0, j => by
    have : ext A 0 = fun r => [r] := rfl
    rw [this]
    simp
  | k + 1, j => by
    have : ext A (k + 1) = fun r => (ch A r).flatMap (ext A k) := rfl
    rw [this, ← List.flatMap_assoc]
    show (grow A (j + 1)).flatMap (ext A k) = _
    rw [grow_ext A k (j + 1)]
    congr 1
    omega
theorem grow_is (A : Ad) (k : Nat) : grow A k = ext A k [] := by
  have := grow_ext A k 0
  simp [grow] at this
  exact this.symm
/-! ### falling products -/
def ff (x : Int) : Nat → Int
  | 0 => 1
  | k + 1 => x * ff (x - 1) k
def fall (x : Int) : Nat → Int
  | 0 => 1
  | k + 1 => fall x k * (x - k)
theorem ff_end : ∀ (k : Nat) (x : Int), ff x (k + 1) = ff x k * (x - k)
  | 0, x => by simp [ff]
  | k + 1, x => by
    show x * ff (x - 1) (k + 1) = x * ff (x - 1) k * (x - (k + 1 : Nat))
    rw [ff_end k (x - 1), Int.mul_assoc]
    have : x - 1 - (k : Int) = x - ((k + 1 : Nat) : Int) := by omega
    rw [this]
theorem ff_fall : ∀ (k : Nat) (x : Int), ff x k = fall x k
  | 0, _ => rfl
  | k + 1, x => by rw [ff_end, ff_fall k x]; rfl
/-! ### sums -/
theorem sum_flat {α β : Type} (f : α → List β) (g : β → Int) : ∀ l : List α, ((l.flatMap f).map g).sum = (l.map fun x => ((f x).map g).sum).sum
  | [] => rfl
  | x :: l => by simp [sum_flat f g l]
theorem sum_filter {α : Type} (p : α → Bool) (g : α → Int) : ∀ l : List α, ((l.filter p).map g).sum = (l.map fun x => if p x then g x else 0).sum
  | [] => rfl
  | x :: l => by
    cases h : p x <;> simp [h, sum_filter p g l]
theorem sum_const {α : Type} (z : Int) (g : α → Int) : ∀ l : List α, (∀ x ∈ l, g x = z) → (l.map g).sum = l.length * z
  | [], _ => by simp
  | x :: l, h => by
    rw [List.map_cons, List.sum_cons, sum_const z g l fun y hy => h y (List.mem_cons_of_mem _ hy), h x List.mem_cons_self, List.length_cons]
    have : ((l.length + 1 : Nat) : Int) = l.length + 1 := by omega
    rw [this, Int.add_mul]
    omega
theorem sum_mul {α : Type} (z : Int) (g : α → Int) : ∀ l : List α, (l.map fun x => z * g x).sum = z * (l.map g).sum
  | [] => by simp
  | x :: l => by
    simp only [List.map_cons, List.sum_cons, sum_mul z g l, Int.mul_add]
theorem sum_congr {α : Type} {f g : α → Int} {l : List α} (h : ∀ x ∈ l, f x = g x) : (l.map f).sum = (l.map g).sum := by
  rw [List.map_congr_left h]
theorem sum_perm {l l' : List Int} (h : l.Perm l') : l.sum = l'.sum := by
  induction h with
  | nil => rfl
  | cons x _ ih => simp [ih]
  | swap x y l => simp only [List.sum_cons]; omega
  | trans _ _ a b => exact a.trans b
/-! ### rooms -/
theorem nr_app (r : List Nat) (x : Nat) : nr (r ++ [x]) = max (nr r) (x + 1) := by
  induction r with
  | nil => simp [nr]
  | cons y r ih =>
    show max (y + 1) (nr (r ++ [x])) = max (max (y + 1) (nr r)) (x + 1)
    rw [ih]
    omega
theorem nr_gt {r : List Nat} {x : Nat} (h : x ∈ r) : x < nr r := by
  induction r with
  | nil => cases h
  | cons y r ih =>
    show x < max (y + 1) (nr r)
    rcases List.mem_cons.mp h with e | h
    · omega
    · have := ih h
      omega
theorem nr_le {r : List Nat} {n : Nat} (h : ∀ x ∈ r, x < n) : nr r ≤ n := by
  induction r with
  | nil => exact Nat.zero_le _
  | cons y r ih =>
    show max (y + 1) (nr r) ≤ n
    have := h y List.mem_cons_self
    have := ih fun x hx => h x (List.mem_cons_of_mem _ hx)
    omega
theorem ch_nr {A : Ad} {r r' : List Nat} (h : r' ∈ ch A r) : nr r ≤ nr r' ∧ nr r' ≤ nr r + 1 ∧ r'.length = r.length + 1 := by
  unfold ch at h
  obtain ⟨x, hx, rfl⟩ := List.mem_map.mp h
  have := List.mem_range.mp (List.mem_filter.mp hx).1
  rw [nr_app, List.length_append]
  refine ⟨by omega, by omega, rfl⟩
theorem ext_nr {A : Ad} : ∀ {k : Nat} {r r' : List Nat}, r' ∈ ext A k r → nr r ≤ nr r' ∧ nr r' ≤ nr r + k ∧ r'.length = r.length + k
  | 0, r, r', h => by
    simp only [ext, List.mem_singleton] at h
    subst h
    exact ⟨Nat.le_refl _, Nat.le_refl _, rfl⟩
  | k + 1, r, r', h => by
    obtain ⟨s, hs, h⟩ := List.mem_flatMap.mp h
    have a := ch_nr hs
    have b := ext_nr h
    omega
theorem all_of {α : Type} {p q : α → Bool} : ∀ {l : List α}, (∀ x ∈ l, p x = q x) → l.all p = l.all q
  | [], _ => rfl
  | x :: l, h => by
    rw [List.all_cons, List.all_cons, h x List.mem_cons_self, all_of fun y hy => h y (List.mem_cons_of_mem _ hy)]
theorem getD_map (r : List Nat) (f : Nat → Nat) {i : Nat} (h : i < r.length) : (r.map f).getD i 0 = f (r.getD i 0) := by
  simp [List.getD_eq_getElem?_getD, h]
theorem getD_mem {r : List Nat} {i : Nat} (h : i < r.length) : r.getD i 0 ∈ r := by
  simp [List.getD_eq_getElem?_getD, h]
theorem nodup_inj {col : List Nat} (hn : col.Nodup) {i j : Nat} (hi : i < col.length) (hj : j < col.length) : (col.getD i 0 = col.getD j 0) ↔ i = j := by
  constructor
  · intro h
    simp only [List.getD_eq_getElem?_getD, List.getElem?_eq_getElem hi, List.getElem?_eq_getElem hj, Option.getD_some] at h
    rcases Nat.lt_trichotomy i j with c | c | c
    · exact absurd h (List.pairwise_iff_getElem.mp hn i j hi hj c)
    · exact c
    · exact absurd h.symm (List.pairwise_iff_getElem.mp hn j i hj hi c)
  · intro h
    rw [h]
/-- the colours that a parting's rooms wear -/
theorem okc_same {A : Ad} {r col : List Nat} {x : Nat} (hr : ∀ y ∈ r, y < col.length) (hn : col.Nodup) (hx : x < col.length) : okc A (r.map fun j => col.getD j 0) (col.getD x 0) = okc A r x := by
  unfold okc
  rw [List.length_map]
  refine all_of fun i hi => ?_
  have hi := List.mem_range.mp hi
  rw [getD_map r _ hi]
  have e := nodup_inj hn (hr _ (getD_mem hi)) hx
  have : (col.getD (r.getD i 0) 0 == col.getD x 0) = (r.getD i 0 == x) := by
    rw [Bool.eq_iff_iff, beq_iff_eq, beq_iff_eq]
    exact e
  rw [this]
theorem okc_new {A : Ad} {c : List Nat} {x : Nat} (h : x ∉ c) : okc A c x = true := by
  unfold okc
  rw [List.all_eq_true]
  intro i hi
  have hi := List.mem_range.mp hi
  have : (c.getD i 0 == x) = false := by
    rw [beq_eq_false_iff_ne]
    intro e
    exact h (e ▸ getD_mem hi)
  rw [this]
  rfl
theorem range_split {L : Nat} {col : List Nat} (hn : col.Nodup) (hL : ∀ x ∈ col, x < L) : (List.range L).Perm (col ++ (List.range L).filter fun x => decide (x ∉ col)) := by
  have h1 : ((List.range L).filter fun x => decide (x ∈ col)).Perm col := by
    rw [List.perm_ext_iff_of_nodup (List.nodup_range.filter _) hn]
    intro a
    simp only [List.mem_filter, List.mem_range, decide_eq_true_eq]
    exact ⟨fun z => z.2, fun z => ⟨hL a z, z⟩⟩
  have h2 := List.filter_append_perm (fun x => decide (x ∈ col)) (List.range L)
  have e : (fun x => !decide (x ∈ col)) = fun x => decide (x ∉ col) := by
    funext x
    simp
  rw [e] at h2
  exact h2.symm.trans (h1.append_right _)
theorem map_get_range (col : List Nat) : (List.range col.length).map (fun j => col.getD j 0) = col := by
  refine List.ext_getElem? fun i => ?_
  by_cases h : i < col.length
  · simp [h, List.getD_eq_getElem?_getD]
  · simp [h]
theorem try_ext (A : Ad) (L : Nat) : ∀ (k : Nat) (r col : List Nat), nr r = col.length → col.Nodup → (∀ x ∈ col, x < L) →
    tryP A L k (r.map fun j => col.getD j 0) = ((ext A k r).map fun r' => ff ((L : Int) - nr r) (nr r' - nr r)).sum
  | 0, r, col, e, hn, hL => by simp [tryP, ext, ff]
  | k + 1, r, col, e, hn, hL => by
    have hr : ∀ y ∈ r, y < col.length := fun y hy => e ▸ nr_gt hy
    have key : ∀ x, x ∈ r.map (fun j => col.getD j 0) → x ∈ col := fun x hx => by
      obtain ⟨y, hy, rfl⟩ := List.mem_map.mp hx
      exact getD_mem (hr y hy)
    show ((List.range L).map fun x => if okc A (r.map fun j => col.getD j 0) x then tryP A L k ((r.map fun j => col.getD j 0) ++ [x]) else 0).sum = (((ch A r).flatMap (ext A k)).map _).sum
    rw [sum_perm ((range_split hn hL).map _), List.map_append, List.sum_append, sum_flat]
    unfold ch
    rw [List.range_succ, List.filter_append, List.map_append, List.map_append, List.sum_append]
    congr 1
    · rw [List.map_map, sum_filter, ← map_get_range col, List.map_map, map_get_range col, e]
      refine sum_congr fun j hj => ?_
      have hj := List.mem_range.mp hj
      show (if okc A (r.map fun j => col.getD j 0) (col.getD j 0) then _ else 0) = _
      rw [okc_same hr hn hj]
      split
      · have e2 : nr (r ++ [j]) = nr r := by rw [nr_app]; omega
        have ih := try_ext A L k (r ++ [j]) col (e2.trans e) hn hL
        rw [List.map_append] at ih
        rw [e2, e] at ih
        exact ih
      · rfl
    · have ok : okc A r (nr r) = true := okc_new fun h => Nat.lt_irrefl _ (nr_gt h)
      have ln : ((List.range L).filter fun x => decide (x ∉ col)).length + col.length = L := by
        have := (range_split hn hL).length_eq
        rw [List.length_range, List.length_append] at this
        omega
      have f1 : [nr r].filter (okc A r) = [nr r] := by simp [ok]
      rw [f1]
      simp only [List.map_cons, List.map_nil, List.sum_cons, List.sum_nil]
      have e2 : nr (r ++ [nr r]) = nr r + 1 := by rw [nr_app]; omega
      rw [sum_const (((ext A k (r ++ [nr r])).map fun r' => ff ((L : Int) - nr (r ++ [nr r])) (nr r' - nr (r ++ [nr r]))).sum)]
      · rw [Int.add_zero, ← sum_mul]
        refine sum_congr fun r' hr' => ?_
        have g := (ext_nr hr').1
        rw [e2] at g ⊢
        obtain ⟨d, hd⟩ : ∃ d, nr r' = nr r + 1 + d := ⟨nr r' - (nr r + 1), by omega⟩
        have a1 : nr r' - nr r = d + 1 := by omega
        have a2 : nr r' - (nr r + 1) = d := by omega
        rw [a1, a2]
        show _ = (((L : Int) - nr r)) * ff ((L : Int) - nr r - 1) d
        have a3 : (L : Int) - ((nr r + 1 : Nat) : Int) = (L : Int) - nr r - 1 := by omega
        have a4 : ((((List.range L).filter fun x => decide (x ∉ col)).length : Nat) : Int) = (L : Int) - nr r := by omega
        rw [a3, a4]
      · intro x hx
        have hx := List.mem_filter.mp hx
        have hx1 : x < L := List.mem_range.mp hx.1
        have hx2 : x ∉ col := by simpa using hx.2
        rw [okc_new fun h => hx2 (key x h), if_pos rfl]
        have ih := try_ext A L k (r ++ [nr r]) (col ++ [x]) (by rw [e2, List.length_append, e]; rfl) (List.nodup_append.mpr ⟨hn, by simp, fun a ha b hb => by
          rw [List.mem_singleton] at hb
          subst hb
          exact fun z => hx2 (z ▸ ha)⟩) (fun y hy => by
          rcases List.mem_append.mp hy with h | h
          · exact hL y h
          · rw [List.mem_singleton.mp h]
            exact hx1)
        rw [← ih]
        congr 1
        rw [List.map_append]
        congr 1
        · refine List.map_congr_left fun j hj => ?_
          have := hr j hj
          simp [List.getD_eq_getElem?_getD, List.getElem?_append_left this]
        · simp [List.getD_eq_getElem?_getD, e]
/-- colours counted by partings -/
theorem try_grow (A : Ad) (L m : Nat) : tryP A L m [] = ((grow A m).map fun r => fall (L : Int) (nr r)).sum := by
  have := try_ext A L m [] [] rfl List.nodup_nil (by simp)
  simp only [List.map_nil] at this
  rw [this, grow_is]
  refine sum_congr fun r _ => ?_
  have e0 : nr [] = 0 := rfl
  have e1 : (L : Int) - ((0 : Nat) : Int) = L := by omega
  rw [e0, Nat.sub_zero, e1, ff_fall]
end VM

end
section
namespace VM
/-! ### partings counted set by set -/
def partP (A : Ad) : Nat → List (List Nat) → Nat → List Nat
  | 0, sets, _ => [sets.length]
  | k + 1, sets, t => partP A k (sets ++ [[t]]) (t + 1) ++ (List.range sets.length).flatMap fun j => if (sets.getD j []).any (fun o => A o t) then [] else partP A k (sets.take j ++ [sets.getD j [] ++ [t]] ++ sets.drop (j + 1)) (t + 1)
structure Mt (sets : List (List Nat)) (r : List Nat) : Prop where
  len : sets.length = nr r
  mem : ∀ j, j < nr r → ∀ i, i ∈ sets.getD j [] ↔ i < r.length ∧ r.getD i 0 = j
theorem perm_flat {α β : Type} {f g : α → List β} : ∀ {l : List α}, (∀ x ∈ l, (f x).Perm (g x)) → (l.flatMap f).Perm (l.flatMap g)
  | [], _ => .refl _
  | x :: l, h => by
    rw [List.flatMap_cons, List.flatMap_cons]
    exact (h x List.mem_cons_self).append (perm_flat fun y hy => h y (List.mem_cons_of_mem _ hy))
theorem flat_filter {α β : Type} (p : α → Bool) (g : α → List β) : ∀ l : List α, (l.filter p).flatMap g = l.flatMap fun x => if p x then g x else []
  | [] => rfl
  | x :: l => by cases h : p x <;> simp [h, flat_filter p g l]
theorem map_flat {α β γ : Type} (f : α → List β) (g : β → γ) (l : List α) : (l.flatMap f).map g = l.flatMap fun x => (f x).map g := List.map_flatMap ..
theorem getD_app {α : Type} (l l' : List α) (i : Nat) (z : α) : (l ++ l').getD i z = if i < l.length then l.getD i z else l'.getD (i - l.length) z := by
  simp only [List.getD_eq_getElem?_getD, List.getElem?_append]
  split <;> rfl
theorem getD_set {α : Type} {l : List α} {j i : Nat} {v z : α} (hj : j < l.length) : (l.take j ++ [v] ++ l.drop (j + 1)).getD i z = if i = j then v else l.getD i z := by
  have e : l.take j ++ [v] ++ l.drop (j + 1) = l.set j v := by
    rw [List.set_eq_take_append_cons_drop, if_pos hj]
    simp
  rw [e]
  simp only [List.getD_eq_getElem?_getD, List.getElem?_set]
  by_cases c : j = i
  · subst c
    simp [hj]
  · have : ¬ i = j := fun z => c z.symm
    simp [c, this]
theorem Mt.new {sets : List (List Nat)} {r : List Nat} (M : Mt sets r) : Mt (sets ++ [[r.length]]) (r ++ [nr r]) where
  len := by rw [List.length_append, nr_app, M.len]; simp
  mem := fun j hj i => by
    rw [nr_app] at hj
    rw [getD_app, M.len, List.length_append, getD_app]
    by_cases c : j < nr r
    · rw [if_pos c, M.mem j c i]
      by_cases d : i < r.length
      · simp [d]
        omega
      · simp [d]
        intro h
        have : i = r.length := by omega
        subst this
        simp
        omega
    · have : j = nr r := by omega
      subst this
      simp
      constructor
      · rintro rfl
        simp
      · intro ⟨h1, h2⟩
        by_cases d : i < r.length
        · simp [d] at h2
          have := nr_gt (getD_mem d)
          simp [List.getD_eq_getElem?_getD, d] at this
          omega
        · omega
theorem Mt.add {sets : List (List Nat)} {r : List Nat} {j : Nat} (M : Mt sets r) (hj : j < nr r) : Mt (sets.take j ++ [sets.getD j [] ++ [r.length]] ++ sets.drop (j + 1)) (r ++ [j]) where
  len := by
    have := M.len
    rw [nr_app]
    simp
    omega
  mem := fun q hq i => by
    rw [nr_app] at hq
    rw [getD_set (by rw [M.len]; exact hj), List.length_append, getD_app]
    have hq : q < nr r := by omega
    by_cases c : q = j
    · subst c
      rw [if_pos rfl, List.mem_append, M.mem q hj i]
      by_cases d : i < r.length
      · simp [d]
        omega
      · simp [d]
        constructor
        · rintro rfl
          simp
        · intro h
          omega
    · rw [if_neg c, M.mem q hq i]
      by_cases d : i < r.length
      · simp [d]
        omega
      · simp [d]
        intro h
        have : i = r.length := by omega
        subst this
        simp
        omega
theorem Mt.ok {A : Ad} {sets : List (List Nat)} {r : List Nat} {j : Nat} (M : Mt sets r) (hj : j < nr r) : (sets.getD j []).any (fun o => A o r.length) = !okc A r j := by
  rw [Bool.eq_iff_iff, List.any_eq_true]
  unfold okc
  simp only [Bool.not_eq_true', List.all_eq_false, List.mem_range]
  constructor
  · rintro ⟨o, ho, h⟩
    obtain ⟨h1, h2⟩ := (M.mem j hj o).mp ho
    refine ⟨o, h1, ?_⟩
    rw [h2, h]
    simp
  · rintro ⟨i, hi, h⟩
    simp at h
    refine ⟨i, (M.mem j hj i).mpr ⟨hi, ?_⟩, h.2⟩
    simpa [List.getD_eq_getElem?_getD] using h.1
theorem parts_perm (A : Ad) : ∀ (k : Nat) (sets : List (List Nat)) (r : List Nat), Mt sets r → (partP A k sets r.length).Perm ((ext A k r).map nr)
  | 0, sets, r, M => by
    show [sets.length].Perm [nr r]
    rw [M.len]
  | k + 1, sets, r, M => by
    show (partP A k (sets ++ [[r.length]]) (r.length + 1) ++ _).Perm (((ch A r).flatMap (ext A k)).map nr)
    have ok : okc A r (nr r) = true := okc_new fun h => Nat.lt_irrefl _ (nr_gt h)
    have f1 : [nr r].filter (okc A r) = [nr r] := by simp [ok]
    unfold ch
    rw [List.range_succ, List.filter_append, f1, List.map_append, List.flatMap_append, List.map_append]
    refine List.perm_append_comm.trans (List.Perm.append ?_ ?_)
    · rw [List.flatMap_map, flat_filter, map_flat, M.len]
      refine perm_flat fun j hj => ?_
      have hj := List.mem_range.mp hj
      rw [M.ok hj]
      cases c : okc A r j with
      | false => simp
      | true =>
        simp only [Bool.not_true, Bool.false_eq_true, if_false, if_true]
        have := parts_perm A k _ _ (M.add hj)
        rw [List.length_append] at this
        exact this
    · simp only [List.map_cons, List.map_nil, List.flatMap_cons, List.flatMap_nil, List.append_nil]
      have := parts_perm A k _ _ M.new
      rw [List.length_append] at this
      exact this
theorem parts_count (A : Ad) (m k : Nat) : (partP A m [] 0).count k = ((grow A m).map nr).count k := by
  have := parts_perm A m [] [] ⟨rfl, fun j hj => absurd hj (Nat.not_lt_zero _)⟩
  rw [grow_is]
  exact this.count_eq k
end VM

end
section
namespace VM
/-! ### colours as lists -/
def chL (A : Ad) (L : Nat) (c : List Nat) : List (List Nat) := ((List.range L).filter (okc A c)).map fun x => c ++ [x]
def lev (A : Ad) (L : Nat) : Nat → List (List Nat)
  | 0 => [[]]
  | k + 1 => (lev A L k).flatMap (chL A L)
def exL (A : Ad) (L : Nat) : Nat → List Nat → List (List Nat)
  | 0, c => [c]
  | k + 1, c => (chL A L c).flatMap (exL A L k)
theorem lev_ex (A : Ad) (L : Nat) : ∀ k j, (lev A L j).flatMap (exL A L k) = lev A L (j + k)
  | 0, j => by
    have : exL A L 0 = fun r => [r] := rfl
    rw [this]
    simp
  | k + 1, j => by
    have : exL A L (k + 1) = fun r => (chL A L r).flatMap (exL A L k) := rfl
    rw [this, ← List.flatMap_assoc]
    show (lev A L (j + 1)).flatMap (exL A L k) = _
    rw [lev_ex A L k (j + 1)]
    congr 1
    omega
theorem sum_cast (l : List Nat) : ((l.sum : Nat) : Int) = (l.map fun (n : Nat) => (n : Int)).sum := by
  induction l with
  | nil => rfl
  | cons a l ih => simp [ih]
theorem try_len (A : Ad) (L : Nat) : ∀ (k : Nat) (c : List Nat), tryP A L k c = ((exL A L k c).length : Int)
  | 0, c => rfl
  | k + 1, c => by
    show ((List.range L).map fun x => if okc A c x then tryP A L k (c ++ [x]) else 0).sum = (((chL A L c).flatMap (exL A L k)).length : Int)
    rw [List.length_flatMap, sum_cast, ← sum_filter]
    unfold chL
    rw [List.map_map, List.map_map]
    exact sum_congr fun x _ => try_len A L k (c ++ [x])
theorem try_lev (A : Ad) (L m : Nat) : tryP A L m [] = ((lev A L m).length : Int) := by
  have := lev_ex A L m 0
  simp [lev] at this
  rw [try_len, this]
theorem okc_iff {A : Ad} {c : List Nat} {x : Nat} : okc A c x = true ↔ ∀ i, i < c.length → c.getD i 0 = x → A i c.length = false := by
  unfold okc
  rw [List.all_eq_true]
  simp only [List.mem_range]
  constructor
  · intro h i hi e
    have := h i hi
    rw [e] at this
    simpa using this
  · intro h i hi
    by_cases e : c.getD i 0 = x
    · rw [h i hi e]
      simp
    · have : (c.getD i 0 == x) = false := beq_eq_false_iff_ne.mpr e
      rw [this]
      rfl
theorem mem_lev {A : Ad} {L : Nat} : ∀ {k : Nat} {c : List Nat}, c ∈ lev A L k ↔ c.length = k ∧ (∀ x ∈ c, x < L) ∧ ∀ j, j < k → ∀ i, i < j → c.getD i 0 = c.getD j 0 → A i j = false
  | 0, c => by
    simp only [lev, List.mem_singleton]
    constructor
    · rintro rfl
      exact ⟨rfl, (by simp), fun j h => absurd h (Nat.not_lt_zero _)⟩
    · intro h
      exact List.length_eq_zero_iff.mp h.1
  | k + 1, c => by
    show c ∈ (lev A L k).flatMap (chL A L) ↔ _
    rw [List.mem_flatMap]
    constructor
    · rintro ⟨d, hd, hc⟩
      obtain ⟨h1, h2, h3⟩ := mem_lev.mp hd
      obtain ⟨x, hx, rfl⟩ := List.mem_map.mp hc
      obtain ⟨hx1, hx2⟩ := List.mem_filter.mp hx
      have hx1 := List.mem_range.mp hx1
      have hx2 := okc_iff.mp hx2
      refine ⟨by simp [h1], fun y hy => ?_, fun j hj i hi e => ?_⟩
      · rcases List.mem_append.mp hy with hy | hy
        · exact h2 y hy
        · rw [List.mem_singleton.mp hy]
          exact hx1
      · rw [getD_app, getD_app] at e
        by_cases c : j < d.length
        · rw [if_pos c, if_pos (by omega)] at e
          exact h3 j (by omega) i hi e
        · have : j = d.length := by omega
          subst this
          rw [if_neg c, if_pos hi, Nat.sub_self] at e
          exact hx2 i hi e
    · rintro ⟨h1, h2, h3⟩
      have ne : c ≠ [] := by
        rintro rfl
        simp at h1
      obtain ⟨d, x, rfl⟩ : ∃ d x, c = d ++ [x] := ⟨c.dropLast, c.getLast ne, (List.dropLast_concat_getLast ne).symm⟩
      have hl : d.length = k := by
        simp at h1
        exact h1
      refine ⟨d, mem_lev.mpr ⟨hl, fun y hy => h2 y (List.mem_append_left _ hy), fun j hj i hi e => h3 j (by omega) i hi ?_⟩, List.mem_map.mpr ⟨x, List.mem_filter.mpr ⟨List.mem_range.mpr (h2 x (by simp)), okc_iff.mpr fun i hi e => ?_⟩, rfl⟩⟩
      · rw [getD_app, getD_app, if_pos (by omega), if_pos (by omega)]
        exact e
      · have := h3 d.length (by omega) i hi
        rw [getD_app, getD_app, if_pos hi, if_neg (Nat.lt_irrefl _), Nat.sub_self] at this
        exact this e
theorem nodup_map {α β : Type} {f : α → β} {l : List α} (h : l.Nodup) (inj : ∀ x ∈ l, ∀ y ∈ l, f x = f y → x = y) : (l.map f).Nodup := by
  unfold List.Nodup at h ⊢
  rw [List.pairwise_map]
  exact h.imp_of_mem fun hx hy ne e => ne (inj _ hx _ hy e)
theorem lev_nodup (A : Ad) (L : Nat) : ∀ k, (lev A L k).Nodup
  | 0 => by simp [lev]
  | k + 1 => by
    show ((lev A L k).flatMap (chL A L)).Nodup
    unfold List.Nodup
    rw [List.pairwise_flatMap]
    refine ⟨fun c hc => ?_, (lev_nodup A L k).imp fun {c d} ne x hx y hy e => ?_⟩
    · exact nodup_map (List.nodup_range.filter _) fun x _ y _ e => by simpa using e
    · obtain ⟨a, _, rfl⟩ := List.mem_map.mp hx
      obtain ⟨b, _, rfl⟩ := List.mem_map.mp hy
      exact ne (List.append_inj e (by have := congrArg List.length e; simpa using this)).1
/-! ### the graph of a list of pairs -/
def AdOf (s : List (Nat × Nat)) : Ad := fun i j => decide ((min i j, max i j) ∈ s)
structure Gd (m : Nat) (s : List (Nat × Nat)) : Prop where
  lt : ∀ p ∈ s, p.1 < p.2 ∧ p.2 < m
  nd : s.Nodup
theorem mem_pr {s : List (Nat × Nat)} {m L : Nat} {c : List Nat} (g : ∀ p ∈ s, p.1 < p.2 ∧ p.2 < m) : c ∈ lev (AdOf s) L m ↔ c.length = m ∧ (∀ x ∈ c, x < L) ∧ ∀ p ∈ s, c.getD p.1 0 ≠ c.getD p.2 0 := by
  rw [mem_lev]
  refine and_congr Iff.rfl (and_congr Iff.rfl ⟨fun h p hp e => ?_, fun h j hj i hi e => ?_⟩)
  · have b := g p hp
    have := h p.2 b.2 p.1 b.1 e
    unfold AdOf at this
    rw [Nat.min_eq_left (Nat.le_of_lt b.1), Nat.max_eq_right (Nat.le_of_lt b.1)] at this
    simp [hp] at this
  · unfold AdOf
    rw [Nat.min_eq_left (Nat.le_of_lt hi), Nat.max_eq_right (Nat.le_of_lt hi), decide_eq_false_iff_not]
    intro hp
    exact h _ hp e
def W (s : List (Nat × Nat)) (L m : Nat) : Int := tryP (AdOf s) L m []
theorem try_free (L : Nat) : ∀ (k : Nat) (c : List Nat), tryP (AdOf []) L k c = (L : Int) ^ k
  | 0, c => by simp [tryP]
  | k + 1, c => by
    have ok : ∀ x, okc (AdOf []) c x = true := fun x => okc_iff.mpr fun i hi e => by simp [AdOf]
    show ((List.range L).map fun x => if okc (AdOf []) c x then tryP (AdOf []) L k (c ++ [x]) else 0).sum = _
    rw [sum_const ((L : Int) ^ k) _ _ fun x _ => by rw [ok x, if_pos rfl, try_free L k], List.length_range, Int.pow_succ, Int.mul_comm]
/-- where a vertex goes when b is drawn into a -/
def rho (m a b i : Nat) : Nat := if (if i = b then a else i) = m - 1 ∧ b ≠ m - 1 then b else (if i = b then a else i)
def tau (m b i : Nat) : Nat := if i = b then m - 1 else i
theorem rho_lt {m a b i : Nat} (hab : a < b) (hb : b < m) (hi : i < m) : rho m a b i < m - 1 := by
  unfold rho
  by_cases h1 : i = b
  · simp only [h1, if_true]
    split <;> omega
  · simp only [h1, if_false]
    split <;> omega
theorem drawn (s s' : List (Nat × Nat)) (L m a b : Nat) (hab : a < b) (hb : b < m) (g : ∀ p ∈ s, p.1 < p.2 ∧ p.2 < m) (no : (a, b) ∉ s) (g' : ∀ p ∈ s', p.1 < p.2 ∧ p.2 < m - 1)
    (hs : ∀ p, p ∈ s' ↔ ∃ q ∈ s, p = (min (rho m a b q.1) (rho m a b q.2), max (rho m a b q.1) (rho m a b q.2))) : W s L m = W (s ++ [(a, b)]) L m + W s' L (m - 1) := by
  unfold W
  rw [try_lev, try_lev, try_lev]
  have nd := lev_nodup (AdOf s) L m
  have sp := (List.filter_append_perm (fun c : List Nat => decide (c.getD a 0 ≠ c.getD b 0)) (lev (AdOf s) L m)).length_eq
  rw [List.length_append] at sp
  have g1 : ∀ p ∈ s ++ [(a, b)], p.1 < p.2 ∧ p.2 < m := fun p hp => by
    rcases List.mem_append.mp hp with h | h
    · exact g p h
    · rw [List.mem_singleton.mp h]
      exact ⟨hab, hb⟩
  have h1 : ((lev (AdOf s) L m).filter fun c : List Nat => decide (c.getD a 0 ≠ c.getD b 0)).Perm (lev (AdOf (s ++ [(a, b)])) L m) := by
    rw [List.perm_ext_iff_of_nodup (nd.filter _) (lev_nodup _ _ _)]
    intro c
    rw [List.mem_filter, mem_pr g, mem_pr g1, decide_eq_true_eq]
    constructor
    · rintro ⟨⟨a1, a2, a3⟩, a4⟩
      refine ⟨a1, a2, fun p hp => ?_⟩
      rcases List.mem_append.mp hp with h | h
      · exact a3 p h
      · rw [List.mem_singleton.mp h]
        exact a4
    · rintro ⟨a1, a2, a3⟩
      exact ⟨⟨a1, a2, fun p hp => a3 p (List.mem_append_left _ hp)⟩, a3 (a, b) (by simp)⟩
  have pr' : ∀ d : List Nat, (∀ p ∈ s', d.getD p.1 0 ≠ d.getD p.2 0) ↔ ∀ q ∈ s, d.getD (rho m a b q.1) 0 ≠ d.getD (rho m a b q.2) 0 := fun d => by
    constructor
    · intro h q hq
      have := h _ ((hs _).mpr ⟨q, hq, rfl⟩)
      rcases Nat.le_total (rho m a b q.1) (rho m a b q.2) with c | c
      · rw [Nat.min_eq_left c, Nat.max_eq_right c] at this
        exact this
      · rw [Nat.min_eq_right c, Nat.max_eq_left c] at this
        exact this.symm
    · intro h p hp
      obtain ⟨q, hq, rfl⟩ := (hs p).mp hp
      have := h q hq
      rcases Nat.le_total (rho m a b q.1) (rho m a b q.2) with c | c
      · rw [Nat.min_eq_left c, Nat.max_eq_right c]
        exact this
      · rw [Nat.min_eq_right c, Nat.max_eq_left c]
        exact this.symm
  let f : List Nat → List Nat := fun c => (List.range (m - 1)).map fun i => c.getD (tau m b i) 0
  let h : List Nat → List Nat := fun d => (List.range m).map fun i => d.getD (rho m a b i) 0
  have f_at : ∀ (c : List Nat) (i : Nat), i < m - 1 → (f c).getD i 0 = c.getD (tau m b i) 0 := fun c i hi => by
    show ((List.range (m - 1)).map fun i => c.getD (tau m b i) 0).getD i 0 = _
    simp [List.getD_eq_getElem?_getD, hi]
  have h_at : ∀ (c : List Nat) (i : Nat), i < m → (h c).getD i 0 = c.getD (rho m a b i) 0 := fun c i hi => by
    show ((List.range m).map fun i => c.getD (rho m a b i) 0).getD i 0 = _
    simp [List.getD_eq_getElem?_getD, hi]
  have back : ∀ c : List Nat, c.getD a 0 = c.getD b 0 → ∀ i, i < m → c.getD (tau m b (rho m a b i)) 0 = c.getD i 0 := fun c e i hi => by
    unfold rho tau
    by_cases h1 : i = b
    · subst h1
      simp only [if_true]
      rw [if_neg (show ¬ (a = m - 1 ∧ i ≠ m - 1) by omega), if_neg (show ¬ a = i by omega), e]
    · simp only [h1, if_false]
      by_cases h2 : i = m - 1 ∧ b ≠ m - 1
      · rw [if_pos h2, if_pos rfl, h2.1]
      · rw [if_neg h2, if_neg h1]
  have forth : ∀ i, i < m - 1 → rho m a b (tau m b i) = i := fun i hi => by
    unfold rho tau
    by_cases h1 : i = b
    · subst h1
      simp only [if_true]
      rw [if_neg (show ¬ m - 1 = i by omega), if_pos (show m - 1 = m - 1 ∧ i ≠ m - 1 by omega)]
    · simp only [h1, if_false]
      rw [if_neg (by omega)]
  have tau_lt : ∀ i, i < m - 1 → tau m b i < m := fun i hi => by
    unfold tau
    split <;> omega
  have h2 : (((lev (AdOf s) L m).filter fun c : List Nat => !decide (c.getD a 0 ≠ c.getD b 0)).map f).Perm (lev (AdOf s') L (m - 1)) := by
    rw [List.perm_ext_iff_of_nodup (nodup_map (nd.filter _) fun x hx y hy e => ?_) (lev_nodup _ _ _)]
    · intro d
      rw [mem_pr g', pr', List.mem_map]
      constructor
      · rintro ⟨c, hc, rfl⟩
        obtain ⟨hc, e⟩ := List.mem_filter.mp hc
        obtain ⟨a1, a2, a3⟩ := (mem_pr g).mp hc
        have e : c.getD a 0 = c.getD b 0 := by simpa using e
        refine ⟨by simp [f], fun x hx => ?_, fun q hq => ?_⟩
        · obtain ⟨i, hi, rfl⟩ := List.mem_map.mp hx
          exact a2 _ (getD_mem (by rw [a1]; exact tau_lt i (List.mem_range.mp hi)))
        · have b1 := g q hq
          rw [f_at _ _ (rho_lt hab hb (by omega)), f_at _ _ (rho_lt hab hb b1.2), back c e _ (by omega), back c e _ b1.2]
          exact a3 q hq
      · rintro ⟨a1, a2, a3⟩
        refine ⟨h d, List.mem_filter.mpr ⟨(mem_pr g).mpr ⟨by simp [h], fun x hx => ?_, fun q hq => ?_⟩, ?_⟩, ?_⟩
        · obtain ⟨i, hi, rfl⟩ := List.mem_map.mp hx
          exact a2 _ (getD_mem (by rw [a1]; exact rho_lt hab hb (List.mem_range.mp hi)))
        · have b1 := g q hq
          rw [h_at _ _ (by omega), h_at _ _ b1.2]
          exact a3 q hq
        · have e1 : rho m a b a = a := by
            unfold rho
            rw [if_neg (show ¬ a = b by omega), if_neg (by omega)]
          have e2 : rho m a b b = a := by
            unfold rho
            simp only [if_true]
            rw [if_neg (by omega)]
          have : (h d).getD a 0 = (h d).getD b 0 := by rw [h_at _ _ (by omega), h_at _ _ hb, e1, e2]
          rw [this]
          simp
        · refine List.ext_getElem? fun i => ?_
          by_cases hi : i < m - 1
          · have z := f_at (h d) i hi
            rw [h_at _ _ (tau_lt i hi), forth i hi] at z
            have l1 : (f (h d)).length = m - 1 := by simp [f]
            simp only [List.getD_eq_getElem?_getD] at z
            rw [List.getElem?_eq_getElem (by rw [l1]; exact hi), List.getElem?_eq_getElem (by rw [a1]; exact hi)] at z ⊢
            simpa using z
          · rw [List.getElem?_eq_none (by simp [f]; omega), List.getElem?_eq_none (by omega)]
    · obtain ⟨hx, ex⟩ := List.mem_filter.mp hx
      obtain ⟨hy, ey⟩ := List.mem_filter.mp hy
      obtain ⟨x1, _, _⟩ := (mem_pr g).mp hx
      obtain ⟨y1, _, _⟩ := (mem_pr g).mp hy
      have ex : x.getD a 0 = x.getD b 0 := by simpa using ex
      have ey : y.getD a 0 = y.getD b 0 := by simpa using ey
      refine List.ext_getElem? fun i => ?_
      by_cases hi : i < m
      · have z := back x ex i hi
        rw [← f_at x _ (rho_lt hab hb hi), e, f_at y _ (rho_lt hab hb hi), back y ey i hi] at z
        simp only [List.getD_eq_getElem?_getD] at z
        rw [List.getElem?_eq_getElem (by omega), List.getElem?_eq_getElem (by omega)] at z ⊢
        simpa using z.symm
      · rw [List.getElem?_eq_none (by omega), List.getElem?_eq_none (by omega)]
  have l1 := h1.length_eq
  have l2 := h2.length_eq
  rw [List.length_map] at l2
  omega
end VM

end
section
namespace VM
theorem rho_ne {m a b i j : Nat} (hab : a < b) (hb : b < m) (hij : i < j) (hj : j < m) (ne : (i, j) ≠ (a, b)) : rho m a b i ≠ rho m a b j := by
  have ne' : ¬ (i = a ∧ j = b) := fun z => ne (by rw [z.1, z.2])
  unfold rho
  by_cases h1 : i = b
  · simp only [h1, if_true]
    have h2 : ¬ j = b := by omega
    simp only [h2, if_false]
    split <;> split <;> omega
  · simp only [h1, if_false]
    by_cases h2 : j = b
    · simp only [h2, if_true]
      split <;> split <;> omega
    · simp only [h2, if_false]
      split <;> split <;> omega
/-! ### polynomials -/
def evP : List Int → Int → Int
  | [], _ => 0
  | a :: l, x => a + x * evP l x
theorem evP_zero : ∀ (l : List Int) (N : Nat), (∀ x : Nat, N ≤ x → evP l x = 0) → ∀ a ∈ l, a = 0
  | [], _, _, a, h => nomatch h
  | z :: l, N, h, a, ha => by
    have z0 : z = 0 := by
      have e := h (N + z.natAbs + 1) (by omega)
      have dv : ((N + z.natAbs + 1 : Nat) : Int) ∣ z := ⟨-(evP l ((N + z.natAbs + 1 : Nat) : Int)), by
        rw [Int.mul_neg]
        have : z + ((N + z.natAbs + 1 : Nat) : Int) * evP l ((N + z.natAbs + 1 : Nat) : Int) = 0 := e
        omega⟩
      by_cases c : z = 0
      · exact c
      · have := Int.natAbs_dvd_natAbs.mpr dv
        have := Nat.le_of_dvd (by omega) this
        omega
    rcases List.mem_cons.mp ha with e | ha
    · rw [e, z0]
    · refine evP_zero l (N + 1) (fun x hx => ?_) a ha
      have e := h x (by omega)
      have : z + (x : Int) * evP l x = 0 := e
      rw [z0, Int.zero_add] at this
      rcases Int.mul_eq_zero.mp this with q | q
      · omega
      · exact q
def subP (l k : List Int) : List Int := List.zipWith (fun a b => a - b) l k
theorem evP_zip (c : Int) : ∀ (l k : List Int) (x : Int), l.length = k.length → evP (List.zipWith (fun a b => a + c * b) l k) x = evP l x + c * evP k x
  | [], [], x, _ => by simp [evP]
  | a :: l, b :: k, x, h => by
    have ih := evP_zip c l k x (by simpa using h)
    show a + c * b + x * evP (List.zipWith (fun a b => a + c * b) l k) x = a + x * evP l x + c * (b + x * evP k x)
    rw [ih, Int.mul_add, Int.mul_add, ← Int.mul_assoc x c, Int.mul_comm x c, Int.mul_assoc c x]
    omega
  | [], _ :: _, _, h => by simp at h
  | _ :: _, [], _, h => by simp at h
theorem evP_zipS (c : Int) (l k : List Int) (x : Int) (h : l.length = k.length) : evP (List.zipWith (fun a b => a - c * b) l k) x = evP l x - c * evP k x := by
  have := evP_zip (-c) l k x h
  have e : (fun a b : Int => a + -c * b) = fun a b => a - c * b := by
    funext a b
    rw [Int.neg_mul]
    omega
  rw [e] at this
  rw [this, Int.neg_mul]
  omega
theorem evP_eq {l k : List Int} (h : l.length = k.length) (e : ∀ x : Nat, evP l x = evP k x) : l = k := by
  have z := evP_zero (List.zipWith (fun a b => a - 1 * b) l k) 0 fun x _ => by
    rw [evP_zipS 1 l k x h, e x]
    omega
  refine List.ext_getElem h fun i h1 h2 => ?_
  have := z (l[i] - 1 * k[i]) (List.mem_iff_getElem.mpr ⟨i, by simp; omega, by simp⟩)
  omega
/-- less a shorter one -/
theorem evP_less : ∀ (l k r : List Int) (x : Int), k.length ≤ l.length → r.length = l.length → (∀ i, i < l.length → r.getD i 0 = l.getD i 0 - k.getD i 0) → evP r x = evP l x - evP k x
  | [], [], [], x, _, _, _ => by simp [evP]
  | a :: l, k, c :: r, x, h1, h2, h3 => by
    have h0 := h3 0 (by simp)
    have ht : ∀ i, i < l.length → r.getD i 0 = l.getD i 0 - (k.tail).getD i 0 := fun i hi => by
      have := h3 (i + 1) (by simpa using hi)
      cases k with
      | nil => simpa using this
      | cons b k => simpa using this
    have ih := evP_less l k.tail r x (by simp at h1 ⊢; omega) (by simpa using h2) ht
    show c + x * evP r x = a + x * evP l x - evP k x
    rw [ih]
    cases k with
    | nil =>
      simp [evP] at h0 ⊢
      omega
    | cons b k =>
      simp at h0
      show c + x * (evP l x - evP k x) = a + x * evP l x - (b + x * evP k x)
      rw [Int.mul_sub]
      omega
  | [], _ :: _, _, _, h, _, _ => by simp at h
  | [], [], _ :: _, _, _, h, _ => by simp at h
  | _ :: _, _, [], _, _, h, _ => by simp at h
theorem evP_zeros : ∀ (n : Nat) (x : Int), evP (List.replicate n 0) x = 0
  | 0, _ => rfl
  | n + 1, x => by
    show 0 + x * evP (List.replicate n 0) x = 0
    rw [evP_zeros n x]
    simp
theorem evP_pow : ∀ (n : Nat) (x : Int), evP (List.replicate n 0 ++ [1]) x = x ^ n
  | 0, x => by simp [evP]
  | n + 1, x => by
    show 0 + x * evP (List.replicate n 0 ++ [1]) x = x ^ (n + 1)
    rw [evP_pow n x, Int.pow_succ, Int.mul_comm]
    omega
theorem evP_app0 : ∀ (l : List Int) (x : Int), evP (l ++ [0]) x = evP l x
  | [], x => by simp [evP]
  | a :: l, x => by
    show a + x * evP (l ++ [0]) x = a + x * evP l x
    rw [evP_app0 l x]
/-- the polynomial's loop -/
def pstep (st : List Int × List Int) (i : Nat) (count : Int) : List Int × List Int :=
  (List.zipWith (fun a b => a + count * b) st.1 st.2, List.zipWith (fun a b => a - (i : Int) * b) (0 :: st.2) st.2)
structure PI (m : Nat) (counts : List Int) (j : Nat) (st : List Int × List Int) : Prop where
  l1 : st.1.length = m + 1
  l2 : st.2.length = m + 1
  e1 : ∀ x : Int, evP st.1 x = ((List.range j).map fun i => counts.getD i 0 * fall x i).sum
  e2 : j ≤ m → ∀ x : Int, evP st.2 x = fall x j
  z : ∀ i, j < i → i ≤ m → st.2.getD i 0 = 0
theorem PI.step {m : Nat} {counts : List Int} {j : Nat} {st : List Int × List Int} (h : PI m counts j st) (hj : j ≤ m) : PI m counts (j + 1) (pstep st j (counts.getD j 0)) where
  l1 := by
    have a := h.l1
    have b := h.l2
    simp [pstep]
    omega
  l2 := by
    have b := h.l2
    simp [pstep]
    omega
  e1 := fun x => by
    show evP (List.zipWith _ st.1 st.2) x = _
    rw [evP_zip _ _ _ _ (h.l1.trans h.l2.symm), h.e1 x, h.e2 hj x, List.range_succ, List.map_append, List.sum_append]
    simp
  e2 := fun hj2 x => by
    have b := h.l2
    obtain ⟨p, q, hp⟩ : ∃ p q, st.2 = p ++ [q] := by
      have ne : st.2 ≠ [] := by
        intro e
        rw [e] at b
        simp at b
      exact ⟨_, _, (List.dropLast_concat_getLast ne).symm⟩
    have lp : p.length = m := by
      rw [hp] at b
      simp at b
      exact b
    have q0 : q = 0 := by
      have := h.z m (by omega) (Nat.le_refl _)
      rw [hp] at this
      simpa [List.getD_eq_getElem?_getD, lp] using this
    subst q0
    show evP (List.zipWith (fun a b => a - (j : Int) * b) (0 :: st.2) st.2) x = fall x j * (x - j)
    have e : List.zipWith (fun a b => a - (j : Int) * b) (0 :: st.2) st.2 = List.zipWith (fun a b => a - (j : Int) * b) (0 :: p) st.2 := by
      rw [hp, ← List.cons_append, show (0 : Int) :: p ++ [0] = (0 :: p) ++ [0] from rfl]
      have : List.zipWith (fun a b => a - (j : Int) * b) ((0 :: p) ++ [0]) (p ++ [0]) = List.zipWith (fun a b => a - (j : Int) * b) (0 :: p) (p ++ [0]) := by
        have := List.zipWith_append (f := fun (a b : Int) => a - (j : Int) * b) (l₁ := 0 :: p) (l₁' := [0]) (l₂ := p ++ [0]) (l₂' := []) (by simp)
        simpa using this
      exact this
    rw [e, evP_zipS _ _ _ _ (by simp [b, lp]), h.e2 hj x]
    have : evP p x = fall x j := by
      rw [← h.e2 hj x, hp, evP_app0]
    show 0 + x * evP p x - (j : Int) * fall x j = _
    rw [this, Int.mul_sub, Int.mul_comm x, Int.mul_comm (j : Int)]
    omega
  z := fun i h1 h2 => by
    have b := h.l2
    have a1 := h.z i (by omega) h2
    have a2 : (0 :: st.2).getD i 0 = 0 := by
      obtain ⟨d, rfl⟩ : ∃ d, i = d + 1 := ⟨i - 1, by omega⟩
      have := h.z d (by omega) (by omega)
      simpa using this
    show (List.zipWith (fun a b => a - (j : Int) * b) (0 :: st.2) st.2).getD i 0 = 0
    simp only [List.getD_eq_getElem?_getD, List.getElem?_zipWith]
    have i1 : i < st.2.length := by omega
    simp only [List.getD_eq_getElem?_getD] at a1 a2
    rw [List.getElem?_eq_getElem (by simp; omega)] at a2 ⊢
    rw [List.getElem?_eq_getElem i1] at a1 ⊢
    simp at a1 a2 ⊢
    rw [a1, a2]
    simp
theorem PI.start (m : Nat) (counts : List Int) : PI m counts 0 (List.replicate (m + 1) 0, 1 :: List.replicate m 0) where
  l1 := by simp
  l2 := by simp
  e1 := fun x => by simp [evP_zeros]
  e2 := fun _ x => by
    show 1 + x * evP (List.replicate m 0) x = 1
    rw [evP_zeros]
    simp
  z := fun i h1 h2 => by
    obtain ⟨d, rfl⟩ : ∃ d, i = d + 1 := ⟨i - 1, by omega⟩
    simp [List.getD_eq_getElem?_getD, List.getElem?_replicate]
    split <;> rfl
/-- how many partings have k rooms -/
def cnts (A : Ad) (m : Nat) : List Int := (List.range (m + 1)).map fun k => ((((grow A m).map nr).count k : Nat) : Int)
theorem sum_count (g : Nat → Int) : ∀ (l : List Nat) (n : Nat), (∀ x ∈ l, x < n) → (l.map g).sum = ((List.range n).map fun k => ((l.count k : Nat) : Int) * g k).sum
  | [], n, _ => by
    have := sum_const (0 : Int) (fun k => (([] : List Nat).count k : Int) * g k) (List.range n) fun x _ => by simp
    rw [this]
    simp
  | x :: l, n, h => by
    rw [List.map_cons, List.sum_cons, sum_count g l n fun y hy => h y (List.mem_cons_of_mem _ hy)]
    have hx := h x List.mem_cons_self
    have one : ((List.range n).map fun k => if k = x then g k else 0).sum = g x := by
      have := sum_filter (fun k => decide (k = x)) g (List.range n)
      simp only [decide_eq_true_eq] at this
      rw [← this]
      have f : (List.range n).filter (fun k => decide (k = x)) = [x] := by
        have p : ((List.range n).filter fun k => decide (k = x)).Perm [x] := by
          rw [List.perm_ext_iff_of_nodup (List.nodup_range.filter _) (by simp)]
          intro a
          simp only [List.mem_filter, List.mem_range, decide_eq_true_eq, List.mem_singleton]
          constructor
          · exact fun z => z.2
          · rintro rfl
            exact ⟨hx, rfl⟩
        exact List.perm_singleton.mp p
      rw [f]
      simp
    have add : ∀ (f g : Nat → Int) (l : List Nat), (l.map f).sum + (l.map g).sum = (l.map fun k => f k + g k).sum := fun f g l => by
      induction l with
      | nil => rfl
      | cons a l ih =>
        simp only [List.map_cons, List.sum_cons]
        omega
    rw [← one, add]
    refine sum_congr fun k _ => ?_
    rw [List.count_cons]
    by_cases c : k = x
    · subst c
      simp [Int.add_mul]
      omega
    · have : ¬ x = k := fun z => c z.symm
      simp [c, this]
theorem W_cnts (s : List (Nat × Nat)) (L m : Nat) : W s L m = ((List.range (m + 1)).map fun i => (cnts (AdOf s) m).getD i 0 * fall (L : Int) i).sum := by
  unfold W
  rw [try_grow, show (fun r => fall (L : Int) (nr r)) = (fun k => fall (L : Int) k) ∘ nr from rfl, ← List.map_map, sum_count _ _ (m + 1)]
  · refine sum_congr fun i hi => ?_
    have hi := List.mem_range.mp hi
    unfold cnts
    simp [List.getD_eq_getElem?_getD, hi]
  · intro x hx
    obtain ⟨r, hr, rfl⟩ := List.mem_map.mp hx
    rw [grow_is] at hr
    have := ext_nr hr
    have e0 : nr [] = 0 := rfl
    omega
end VM

end
section
open PySem PySem.Spec VL L2
namespace VM
open VG
def nI (x : Nat) : D := .int (x : Int)
def toI (p : Nat × Nat) : Int × Int := (p.1, p.2)
def gr (s : List (Nat × Nat)) : List (Int × Int) := s.map toI
theorem mem_gr {s : List (Nat × Nat)} {p : Nat × Nat} : toI p ∈ gr s ↔ p ∈ s := by
  unfold gr
  rw [List.mem_map]
  constructor
  · rintro ⟨q, hq, e⟩
    have : q = p := by
      have a := congrArg Prod.fst e
      have b := congrArg Prod.snd e
      simp only [toI] at a b
      exact Prod.ext (by omega) (by omega)
    exact this ▸ hq
  · intro h
    exact ⟨p, h, rfl⟩
theorem isIn_nat (s : List (Nat × Nat)) (i j : Nat) : isIn (gr s) (i : Int) (j : Int) = AdOf s i j := by
  unfold isIn AdOf
  have e : ((min (i : Int) (j : Int), max (i : Int) (j : Int)) : Int × Int) = toI (min i j, max i j) := by
    unfold toI
    exact Prod.ext (by omega) (by omega)
  rw [e]
  exact decide_eq_decide.mpr mem_gr
theorem lawAreN (m : Nat) (s : List (Nat × Nat)) (i j : Nat) : m_law_are ([plainD m (gr s), nI i, nI j].map .val) = some (.ok (.val (.bl (AdOf s i j))), [plainD m (gr s), nI i, nI j].map .val) := by
  rw [← isIn_nat]
  exact lawAre m (gr s) i j
theorem len_tup (ds : List D) : fOr1 fLen fLenD [.tup ds] = some (.val (.int ds.length)) := rfl
theorem len_lst (ds : List D) : fOr1 fLen fLenD [.lst ds] = some (.val (.int ds.length)) := rfl
theorem eq_nat (x y : Nat) : fEq (nI x) (nI y) = some (.val (.bl (x == y))) := by
  unfold nI
  rw [eq_int]
  have : decide ((x : Int) = (y : Int)) = (x == y) := by
    rw [Bool.eq_iff_iff]
    simp
    omega
  rw [this]
theorem atI_nat {α : Type} {xs : List α} {k : Nat} {x : α} (h : xs[k]? = some x) : atI xs (k : Int) = some x := by
  have hl : k < xs.length := (List.getElem?_eq_some_iff.mp h).1
  have h0 : (0 : Int) ≤ k := by omega
  simp [atI, ixN, hl]
  exact (List.getElem?_eq_some_iff.mp h).2
theorem ix_tup {ds : List D} {k : Nat} {x : D} (h : ds[k]? = some x) : fIxA (.tup ds) (nI k) = some (.val x) := by
  have := atI_nat h
  show (fOr _ _ (.tup ds) (.int (k : Int))) = _
  simp [fOr, fIx, this]
theorem ix_lst {ds : List D} {k : Nat} {x : D} (h : ds[k]? = some x) : fIxA (.lst ds) (nI k) = some (.val x) := by
  have := atI_nat h
  show (fOr _ _ (.lst ds) (.int (k : Int))) = _
  simp [fOr, fIx, this]
theorem add_int (x y : Int) : fAddA (.int x) (.int y) = some (.val (.int (x + y))) := rfl
theorem add_tup {xs ys : List D} (h : xs.length + ys.length ≤ 100000) : fAddA (.tup xs) (.tup ys) = some (.val (.tup (xs ++ ys))) := by
  simp [fAddA, fOr, fInt, fCatL, fCatT, h]
theorem add_lst {xs ys : List D} (h : xs.length + ys.length ≤ 100000) : fAddA (.lst xs) (.lst ys) = some (.lst (xs ++ ys)) := by
  simp [fAddA, fOr, fInt, fCatL, h]
theorem le_of {a b : Nat} (h : Nat.ble a b = true) : a ≤ b := Nat.le_of_ble_eq_true h
/-! ### colours tried one by one -/
def tTest : M := mLc (iRange1 (aCons (mVar 3) aNil)) [6] (.nm 6) mYes (mAnd (mOp2 fEq (mOp2 fIxA (mVar 2) (mVar 6)) (mVar 5)) (mCall m_law_are (aCons (mVar 0) (aCons (mVar 6) (aCons (mVar 3) aNil)))))
def tTurn (fn : Fn) : MS := sIf (mNot (mTru (mCB fAny (aCons tTest aNil)))) (sAsgV 4 (mOp2 fAddA (mVar 4) (mCall fn (aCons (mVar 0) (aCons (mVar 1) (aCons (mOp2 fAddA (mVar 2) (mTup (aCons (mVar 5) aNil))) aNil)))))) sNx
theorem triesB_eq (fn : Fn) : m_law_triesB fn = mFn0 3 7 (sSeq (sAsgV 3 (mCB (fOr1 fLen fLenD) (aCons (mVar 2) aNil))) (sSeq (sIf (mOp2 fEq (mVar 3) (mOp2 fIxA (mVar 0) (mC (.int (0))))) (sRet (mC (.int (1)))) sNx) (sSeq (sAsgV 4 (mC (.int (0)))) (sSeq (sFor (iRange1 (aCons (mVar 1) aNil)) (.nm 5) (tTurn fn)) (sRet (mVar 4)))))) := rfl
section
variable {m L : Nat} {s : List (Nat × Nat)} {c : List Nat} {y z : Option O} {v : D}
def TR (m : Nat) (s : List (Nat × Nat)) (L : Nat) (c : List Nat) (v : D) (y z : Option O) : Rho := [some (.val (plainD m (gr s))), some (.val (.int L)), some (.val (.tup (c.map nI))), some (.val (nI c.length)), some (.val v), y, z]
theorem tTest_run (x : Nat) (hl : c.length ≤ 1000) : RunE tTest (TR m s L c v (some (.val (nI x))) none) (.lst ((List.range c.length).map fun i => .bl (c.getD i 0 == x && AdOf s i c.length))) := by
  refine e_lcma (f := nI) (l := List.range c.length) (fun i => TR m s L c v (some (.val (nI x))) (some (.val (nI i)))) (fun i => .bl (c.getD i 0 == x && AdOf s i c.length)) (i_rng (n := c.length) (a_cons (e_v rfl) a_nil) (by omega)) rfl (by rw [List.length_range]; omega) fun i hi => ⟨rfl, rfl, _, e_and ?_ (fun _ => ?_), rfl⟩
  · have hi := List.mem_range.mp hi
    have g : (c.map nI)[i]? = some (nI (c.getD i 0)) := by simp [hi]
    exact e_op (e_op (e_v rfl) (e_v rfl) (ix_tup g)) (e_v rfl) (eq_nat _ _)
  · exact e_call (a_cons (e_v rfl) (a_cons (e_v rfl) (a_cons (e_v rfl) a_nil))) (lawAreN m s i c.length)
theorem okc_any (A : Ad) (c : List Nat) (x : Nat) : (!(List.range c.length).any fun i => c.getD i 0 == x && A i c.length) = okc A c x := by
  unfold okc
  rw [List.not_any_eq_all_not]
theorem tTurn_run {fn : Fn} {a w : Int} (x : Nat) (hl : c.length ≤ 1000) (hr : okc (AdOf s) c x = true → fn ([plainD m (gr s), .int L, .tup ((c ++ [x]).map nI)].map .val) = some (.ok (.val (.int w)), [plainD m (gr s), .int L, .tup ((c ++ [x]).map nI)].map .val)) :
    RunS (tTurn fn) [] (TR m s L c (.int a) (some (.val (nI x))) none) .nx (TR m s L c (.int (a + if okc (AdOf s) c x then w else 0)) (some (.val (nI x))) none) := by
  refine s_if (u := okc (AdOf s) c x) ?_ (fun e => ?_) (fun e => ?_)
  · have := e_not (e_tru (e_cb (f := fAny) (a_cons (tTest_run (m := m) (L := L) (s := s) (v := .int a) x hl) a_nil) (fAny_map (List.range c.length) fun i => c.getD i 0 == x && AdOf s i c.length)) rfl)
    rw [okc_any] at this
    exact this
  · rw [if_pos e]
    have k := hr e
    rw [List.map_append] at k
    exact s_set (e_op (e_v rfl) (e_call (a_cons (e_v rfl) (a_cons (e_v rfl) (a_cons (e_op (e_v rfl) (e_tup (a_cons (e_v rfl) a_nil) (le_of rfl)) (add_tup (by show (c.map nI).length + 1 ≤ 100000; rw [List.length_map]; omega))) a_nil))) k) (add_int _ _)) (le_of rfl) (by decide)
  · rw [if_neg (by rw [e]; decide), Int.add_zero]
    exact s_nx
end
theorem sum_take {α : Type} {l : List α} {i : Nat} {x : α} (g : α → Int) (h : l[i]? = some x) : ((l.take (i + 1)).map g).sum = ((l.take i).map g).sum + g x := by
  rw [List.take_add_one, h]
  simp
theorem tries_run (m : Nat) (s : List (Nat × Nat)) (L : Nat) (hL : L ≤ 1000) (hm : m ≤ 1000) : ∀ (k n : Nat) (c : List Nat), c.length + k = m → k < n →
    m_law_triesR n ([plainD m (gr s), .int L, .tup (c.map nI)].map .val) = some (.ok (.val (.int (tryP (AdOf s) L k c))), [plainD m (gr s), .int L, .tup (c.map nI)].map .val)
  | k, 0, c, _, h => absurd h (Nat.not_lt_zero _)
  | 0, n + 1, c, e, h => by
    show m_law_triesB (m_law_triesR n) _ = _
    rw [triesB_eq]
    refine f_ret rfl (le_of rfl) (s_seq (s_set (e_cb (a_cons (e_v rfl) a_nil) (len_tup _)) (le_of rfl) (by decide)) (s_seqR (s_ifT (e_op (y := .val (nI m)) (e_v rfl) (e_op (e_v rfl) e_c (pl_0 m (gr s))) ?_) (s_ret e_c)))) (le_of rfl)
    show fEq (.int ((c.map nI).length : Nat)) (nI m) = _
    have := eq_nat (c.map nI).length m
    rw [List.length_map, show c.length = m by omega] at this
    rw [List.length_map, show c.length = m by omega]
    rw [show (D.int ((m : Nat) : Int)) = nI m from rfl, this]
    simp
  | k + 1, n + 1, c, e, h => by
    have hc : ((c.map nI).length : Int) = (c.length : Int) := by rw [List.length_map]
    obtain ⟨ρ', h1, y, h2⟩ := s_form (s := tTurn (m_law_triesR n)) (q := .nm 5) (p := []) (f := nI) (l := List.range L) (mi := iRange1 (aCons (mVar 1) aNil)) (ρ := TR m s L c (.int 0) none none)
      (fun j ρ => ∃ y, ρ = TR m s L c (.int (((List.range L).take j).map fun x => if okc (AdOf s) c x then tryP (AdOf s) L k (c ++ [x]) else 0).sum) y none)
      (i_rng (a_cons (e_v rfl) a_nil) (by omega)) ⟨none, rfl⟩ (fun j x ρ hx ⟨y, hy⟩ => by
        subst hy
        refine ⟨_, _, rfl, tTurn_run (w := tryP (AdOf s) L k (c ++ [x])) x (by omega) (fun _ => tries_run m s L hL hm k n (c ++ [x]) (by rw [List.length_append, List.length_singleton]; omega) (by omega)), some (.val (nI x)), ?_⟩
        rw [sum_take _ hx])
    subst h2
    show m_law_triesB (m_law_triesR n) _ = _
    rw [triesB_eq]
    rw [List.length_range, List.take_of_length_le (by rw [List.length_range]; exact Nat.le_refl _)] at h1
    refine f_ret rfl (le_of rfl) (s_seq (ρ1 := [some (.val (plainD m (gr s))), some (.val (.int L)), some (.val (.tup (c.map nI))), some (.val (nI c.length)), none, none, none]) ?_ (s_seq (s_ifF (e_op (y := .val (nI m)) (e_v rfl) (e_op (e_v rfl) e_c (pl_0 m (gr s))) ?_) s_nx) (s_seq (s_set e_c (le_of rfl) (by decide)) (s_seq h1 (s_ret (e_v rfl)))))) (le_of rfl)
    · have := s_set (i := 3) (p := []) (a := mCB (fOr1 fLen fLenD) (aCons (mVar 2) aNil)) (ρ := [some (.val (plainD m (gr s))), some (.val (.int L)), some (.val (.tup (c.map nI))), none, none, none, none]) (e_cb (a_cons (e_v rfl) a_nil) (len_tup (c.map nI))) (le_of rfl) (by decide)
      rw [List.length_map] at this
      exact this
    · show fEq (nI c.length) (nI m) = _
      rw [eq_nat]
      have : (c.length == m) = false := beq_eq_false_iff_ne.mpr (by omega)
      rw [this]
end VM

end
section
open PySem PySem.Spec VL L2
namespace VM
open VG
theorem cut_to (ds : List D) {k : Nat} (h : k ≤ ds.length) : VL.cutD ds none (some (k : Int)) = ds.take k := by
  unfold VL.cutD
  have e1 : HT.sIx ds.length 0 none = 0 := rfl
  rw [HT.sIx_nat, e1, Nat.min_eq_left h]
  simp
theorem cut_from (ds : List D) {k : Nat} (h : k ≤ ds.length) : VL.cutD ds (some (k : Int)) none = ds.drop k := by
  unfold VL.cutD
  have e1 : HT.sIx ds.length ds.length none = ds.length := rfl
  rw [HT.sIx_nat, e1, Nat.min_eq_left h, List.take_of_length_le (by rw [List.length_drop]; exact Nat.le_refl _)]
/-! ### how many there can be -/
def bd : Nat → Nat → Nat
  | 0, _ => 1
  | k + 1, n => bd k (n + 1) + n * bd k n
theorem len_flat {β : Type} {g : Nat → List β} {b : Nat} : ∀ (l : List Nat), (∀ x ∈ l, (g x).length ≤ b) → (l.flatMap g).length ≤ l.length * b
  | [], _ => by simp
  | x :: l, h => by
    have h1 := h x List.mem_cons_self
    have h2 := len_flat l fun y hy => h y (List.mem_cons_of_mem _ hy)
    rw [List.flatMap_cons, List.length_append, List.length_cons, Nat.add_mul]
    omega
/-- what one spot adds -/
def addP (A : Ad) (k : Nat) (sets : List (List Nat)) (t j : Nat) : List Nat := if (sets.getD j []).any (fun o => A o t) then [] else partP A k (sets.take j ++ [sets.getD j [] ++ [t]] ++ sets.drop (j + 1)) (t + 1)
theorem partP_len (A : Ad) : ∀ (k : Nat) (sets : List (List Nat)) (t : Nat), (partP A k sets t).length ≤ bd k sets.length
  | 0, sets, t => Nat.le_refl _
  | k + 1, sets, t => by
    show (partP A k (sets ++ [[t]]) (t + 1) ++ (List.range sets.length).flatMap (addP A k sets t)).length ≤ bd k (sets.length + 1) + sets.length * bd k sets.length
    have h1 := partP_len A k (sets ++ [[t]]) (t + 1)
    rw [List.length_append, List.length_singleton] at h1
    have h2 := len_flat (g := addP A k sets t) (b := bd k sets.length) (List.range sets.length) fun j hj => by
      have hj := List.mem_range.mp hj
      unfold addP
      split
      · exact Nat.zero_le _
      · have := partP_len A k (sets.take j ++ [sets.getD j [] ++ [t]] ++ sets.drop (j + 1)) (t + 1)
        have e : (sets.take j ++ [sets.getD j [] ++ [t]] ++ sets.drop (j + 1)).length = sets.length := by
          simp
          omega
        rw [e] at this
        exact this
    rw [List.length_range] at h2
    rw [List.length_append]
    omega
theorem add_len {A : Ad} {k t j : Nat} {sets : List (List Nat)} (hj : j < sets.length) : (addP A k sets t j).length ≤ bd k sets.length := by
  unfold addP
  split
  · exact Nat.zero_le _
  · have := partP_len A k (sets.take j ++ [sets.getD j [] ++ [t]] ++ sets.drop (j + 1)) (t + 1)
    have e : (sets.take j ++ [sets.getD j [] ++ [t]] ++ sets.drop (j + 1)).length = sets.length := by
      simp
      omega
    rw [e] at this
    exact this
/-! ### the run -/
def setD (z : List Nat) : D := .lst (z.map nI)
def setsD (sets : List (List Nat)) : D := .lst (sets.map setD)
def pTest : M := mLc (iWalkA (mVar 5)) [6] (.nm 6) mYes (mCall m_law_are (aCons (mVar 0) (aCons (mVar 6) (aCons (mVar 2) aNil))))
def pMore : M := mOp2 fAddA (mOp2 fAddA (mSl (mVar 1) oNone (oPart (mVar 4))) (mLst (aCons (mOp2 fAddA (mVar 5) (mLst (aCons (mVar 2) aNil))) aNil))) (mSl (mVar 1) (oPart (mOp2 fAddA (mVar 4) (mC (.int (1))))) oNone)
def pTurn (fn : Fn) : MS := sIf (mNot (mTru (mCB fAny (aCons pTest aNil)))) (sAsgV 3 (mOp2 fAddA (mVar 3) (mCall fn (aCons (mVar 0) (aCons pMore (aCons (mOp2 fAddA (mVar 2) (mC (.int (1)))) aNil)))))) sNx
def pNew (fn : Fn) : MS := sAsgV 3 (mCall fn (aCons (mVar 0) (aCons (mOp2 fAddA (mVar 1) (mLst (aCons (mLst (aCons (mVar 2) aNil)) aNil))) (aCons (mOp2 fAddA (mVar 2) (mC (.int (1)))) aNil))))
theorem partsB_eq (fn : Fn) : m_law_partsB fn = mFn0 3 7 (sSeq (sIf (mOp2 fEq (mVar 2) (mOp2 fIxA (mVar 0) (mC (.int (0))))) (sRet (mLst (aCons (mCB (fOr1 fLen fLenD) (aCons (mVar 1) aNil)) aNil))) sNx) (sSeq (pNew fn) (sSeq (sFor (iEnu (aCons (mVar 1) aNil)) (.tu ((.nm 4) :: (.nm 5) :: [])) (pTurn fn)) (sRet (mVar 3))))) := rfl
section
variable {m : Nat} {s : List (Nat × Nat)} {sets : List (List Nat)} {t : Nat} {x y z w : Option O}
def PR (m : Nat) (s : List (Nat × Nat)) (sets : List (List Nat)) (t : Nat) (x y z w : Option O) : Rho := [some (.val (plainD m (gr s))), some (.val (setsD sets)), some (.val (nI t)), x, y, z, w]
theorem pTest_run (q : List Nat) (hl : q.length ≤ 1000) : RunE pTest (PR m s sets t x y (some (.val (setD q))) none) (.lst (q.map fun o => .bl (AdOf s o t))) := by
  refine e_lcma (f := nI) (l := q) (fun i => PR m s sets t x y (some (.val (setD q))) (some (.val (nI i)))) (fun i => .bl (AdOf s i t)) (i_wlk (e_v rfl) rfl) rfl (by omega) fun i hi => ⟨rfl, rfl, _, e_call (a_cons (e_v rfl) (a_cons (e_v rfl) (a_cons (e_v rfl) a_nil))) (lawAreN m s i t), rfl⟩
theorem nat1 (t : Nat) : (t : Int) + 1 = ((t + 1 : Nat) : Int) := by omega
theorem pMore_run {j : Nat} (hj : j < sets.length) (hs : sets.length ≤ 1000) (hq : (sets.getD j []).length ≤ 1000) : ∃ o, RunE pMore (PR m s sets t x (some (.val (nI j))) (some (.val (setD (sets.getD j [])))) none) o ∧ o.frz = setsD (sets.take j ++ [sets.getD j [] ++ [t]] ++ sets.drop (j + 1)) := by
  have l1 : (sets.map setD).length = sets.length := List.length_map ..
  have c1 : fSl (setsD sets) none (some (j : Int)) = some (.lst ((sets.take j).map setD)) := by
    show some (O.lst _) = _
    rw [cut_to _ (by omega), List.map_take]
  have c2 : fSl (setsD sets) (some ((j : Int) + 1)) none = some (.lst ((sets.drop (j + 1)).map setD)) := by
    show some (O.lst _) = _
    rw [nat1, cut_from _ (by omega), List.map_drop]
  have a1 : RunE (mOp2 fAddA (mVar 5) (mLst (aCons (mVar 2) aNil))) (PR m s sets t x (some (.val (nI j))) (some (.val (setD (sets.getD j [])))) none) (.lst ((sets.getD j []).map nI ++ [nI t])) :=
    e_op (e_v rfl) (e_lst (a_cons (e_v rfl) a_nil) (le_of rfl)) (add_lst (by show ((sets.getD j []).map nI).length + 1 ≤ 100000; rw [List.length_map]; omega))
  have r := e_op (e_op (f := fAddA) (e_sl (e_v (i := 1) (ρ := PR m s sets t x (some (.val (nI j))) (some (.val (setD (sets.getD j [])))) none) rfl) o_none (o_part (e_v (i := 4) rfl) rfl) c1) (e_lst (a_cons a1 a_nil) (le_of rfl)) (add_lst (by
    show ((sets.take j).map setD).length + 1 ≤ 100000
    rw [List.length_map, List.length_take]
    omega))) (e_sl (e_v (i := 1) rfl) (o_part (e_op (e_v (i := 4) rfl) e_c (add_int _ _)) rfl) o_none c2) (f := fAddA) (add_lst (by
    show ((sets.take j).map setD ++ [_]).length + ((sets.drop (j + 1)).map setD).length ≤ 100000
    rw [List.length_append, List.length_map, List.length_map, List.length_take, List.length_drop]
    simp
    omega))
  refine ⟨_, r, ?_⟩
  show D.lst ((sets.take j).map setD ++ [.lst ((sets.getD j []).map nI ++ [nI t])] ++ (sets.drop (j + 1)).map setD) = _
  unfold setsD setD
  simp
end
/-- what a promise of parts is -/
def PartsAt (m : Nat) (s : List (Nat × Nat)) (fn : Fn) (k : Nat) (sets : List (List Nat)) (t : Nat) : Prop := ∃ o, fn ([plainD m (gr s), setsD sets, nI t].map .val) = some (.ok o, [plainD m (gr s), setsD sets, nI t].map .val) ∧ o.frz = .lst ((partP (AdOf s) k sets t).map nI)
section
variable {m : Nat} {s : List (Nat × Nat)} {sets : List (List Nat)} {t k : Nat} {y z : Option O} {fn : Fn}
theorem pTurn_run {j : Nat} {acc : List Nat} (hj : j < sets.length) (hs : sets.length ≤ 1000) (hq : (sets.getD j []).length ≤ 1000) (hb : acc.length + bd k sets.length ≤ 100000)
    (h : PartsAt m s fn k (sets.take j ++ [sets.getD j [] ++ [t]] ++ sets.drop (j + 1)) (t + 1)) :
    RunS (pTurn fn) [] (PR m s sets t (some (.val (.lst (acc.map nI)))) (some (.val (nI j))) (some (.val (setD (sets.getD j [])))) none) .nx (PR m s sets t (some (.val (.lst ((acc ++ addP (AdOf s) k sets t j).map nI)))) (some (.val (nI j))) (some (.val (setD (sets.getD j [])))) none) := by
  have tr := e_not (e_tru (e_cb (f := fAny) (a_cons (pTest_run (m := m) (s := s) (sets := sets) (t := t) (x := some (.val (.lst (acc.map nI)))) (y := some (.val (nI j))) (sets.getD j []) hq) a_nil) (fAny_map (sets.getD j []) fun o => AdOf s o t)) rfl)
  have al := add_len (A := AdOf s) (k := k) (t := t) hj
  obtain ⟨o, h1, h2⟩ := h
  obtain ⟨o2, h3, h4⟩ := pMore_run (m := m) (s := s) (sets := sets) (t := t) (x := some (.val (.lst (acc.map nI)))) hj hs hq
  refine s_if tr (fun e => ?_) (fun e => ?_)
  · have e : (sets.getD j []).any (fun o => AdOf s o t) = false := by simpa using e
    have ea : addP (AdOf s) k sets t j = partP (AdOf s) k (sets.take j ++ [sets.getD j [] ++ [t]] ++ sets.drop (j + 1)) (t + 1) := by
      unfold addP
      rw [if_neg (by rw [e]; decide)]
    have args := a_cons (ms := aCons pMore (aCons (mOp2 fAddA (mVar 2) (mC (.int (1)))) aNil)) (e_v (i := 0) (ρ := PR m s sets t (some (.val (.lst (acc.map nI)))) (some (.val (nI j))) (some (.val (setD (sets.getD j [])))) none) (d := plainD m (gr s)) rfl) (a_cons h3 (a_cons (e_op (e_v (i := 2) (d := nI t) rfl) e_c (add_int _ _)) a_nil))
    rw [h4] at args
    have cl := e_call (fn := fn) args h1
    have st := s_set (i := 3) (p := []) (e_op (f := fAddA) (e_v (i := 3) (d := .lst (acc.map nI)) rfl) cl (by
      show fAddA (.lst (acc.map nI)) o.frz = some (.lst ((acc ++ addP (AdOf s) k sets t j).map nI))
      rw [h2, add_lst (by rw [List.length_map, List.length_map, ← ea]; omega), List.map_append, ea])) (le_of rfl) (by decide)
    exact st
  · have e : (sets.getD j []).any (fun o => AdOf s o t) = true := by simpa using e
    have ea : addP (AdOf s) k sets t j = [] := by
      unfold addP
      rw [if_pos e]
    rw [ea, List.append_nil]
    exact s_nx
theorem bd_pos : ∀ k n, 1 ≤ bd k n
  | 0, _ => Nat.le_refl _
  | k + 1, n => Nat.le_trans (bd_pos k (n + 1)) (Nat.le_add_right _ _)
theorem parts_run (m : Nat) (s : List (Nat × Nat)) (hm : m ≤ 100) : ∀ (k n : Nat) (sets : List (List Nat)) (t : Nat), t + k = m → k < n → bd k sets.length ≤ 1000 → sets.length ≤ t → (∀ z ∈ sets, z.length ≤ t) → PartsAt m s (m_law_partsR n) k sets t
  | k, 0, sets, t, _, h, _, _, _ => absurd h (Nat.not_lt_zero _)
  | 0, n + 1, sets, t, e, h, hb, hs, hz => by
    have e0 : t = m := by omega
    refine ⟨.lst [nI sets.length], ?_, rfl⟩
    show m_law_partsB (m_law_partsR n) _ = _
    rw [partsB_eq]
    exact f_ret rfl (le_of rfl) (s_seqR (s_ifT (e_op (y := .val (nI m)) (e_v rfl) (e_op (e_v rfl) e_c (pl_0 m (gr s))) (by
      show fEq (nI t) (nI m) = _
      rw [eq_nat, e0]
      simp)) (s_ret (e_lst (a_cons (x := .val (nI sets.length)) (e_cb (a_cons (e_v rfl) a_nil) (by
        show fOr1 fLen fLenD [.lst (sets.map setD)] = _
        rw [len_lst, List.length_map]
        rfl)) a_nil) (le_of rfl))))) (le_of rfl)
  | k + 1, n + 1, sets, t, e, h, hb, hs, hz => by
    have hb' : bd k (sets.length + 1) + sets.length * bd k sets.length ≤ 1000 := hb
    obtain ⟨o, h1, h2⟩ := parts_run m s hm k n (sets ++ [[t]]) (t + 1) (by omega) (by omega) (by rw [List.length_append]; exact Nat.le_trans (Nat.le_add_right _ _) hb') (by rw [List.length_append, List.length_singleton]; omega) (fun z hz2 => by
      rcases List.mem_append.mp hz2 with q | q
      · have := hz z q
        omega
      · rw [List.mem_singleton.mp q]
        simp)
    have p1 := partP_len (AdOf s) k (sets ++ [[t]]) (t + 1)
    rw [List.length_append, List.length_singleton] at p1
    have args : RunA (aCons (mVar 0) (aCons (mOp2 fAddA (mVar 1) (mLst (aCons (mLst (aCons (mVar 2) aNil)) aNil))) (aCons (mOp2 fAddA (mVar 2) (mC (.int (1)))) aNil))) (PR m s sets t none none none none) [plainD m (gr s), setsD (sets ++ [[t]]), nI (t + 1)] := by
      have a := a_cons (e_v (i := 0) (ρ := PR m s sets t none none none none) (d := plainD m (gr s)) rfl) (a_cons (e_op (f := fAddA) (e_v (i := 1) (d := setsD sets) rfl) (e_lst (a_cons (e_lst (a_cons (e_v (i := 2) (d := nI t) rfl) a_nil) (le_of rfl)) a_nil) (le_of rfl)) (add_lst (by
        show (sets.map setD).length + 1 ≤ 100000
        rw [List.length_map]
        omega))) (a_cons (e_op (e_v (i := 2) (d := nI t) rfl) (e_c (d := .int 1)) (add_int _ _)) a_nil))
      have z : D.lst (sets.map setD ++ [.lst [nI t]]) = setsD (sets ++ [[t]]) := by
        unfold setsD setD
        simp
      have z2 : D.int ((t : Int) + 1) = nI (t + 1) := by rw [nat1]; rfl
      have a' : RunA _ _ [plainD m (gr s), D.lst (sets.map setD ++ [.lst [nI t]]), D.int ((t : Int) + 1)] := a
      rw [z, z2] at a'
      exact a'
    have new : RunS (pNew (m_law_partsR n)) [] (PR m s sets t none none none none) .nx (PR m s sets t (some (.val (.lst ((partP (AdOf s) k (sets ++ [[t]]) (t + 1)).map nI)))) none none none) := by
      have := s_set (i := 3) (p := []) (e_call args h1) (le_of rfl) (by decide)
      rw [h2] at this
      exact this
    obtain ⟨ρ', l1, y, z, l2⟩ := s_for (s := pTurn (m_law_partsR n)) (q := .tu ((.nm 4) :: (.nm 5) :: [])) (p := []) (mi := iEnu (aCons (mVar 1) aNil)) (ρ := PR m s sets t (some (.val (.lst ((partP (AdOf s) k (sets ++ [[t]]) (t + 1)).map nI)))) none none none)
      (fun j ρ => ∃ y z, ρ = PR m s sets t (some (.val (.lst ((partP (AdOf s) k (sets ++ [[t]]) (t + 1) ++ (List.range j).flatMap (addP (AdOf s) k sets t)).map nI)))) y z none)
      (i_enu (a_cons (e_v rfl) a_nil) rfl) ⟨none, none, by simp⟩ (fun j d ρ hd ⟨y, z, hy⟩ => by
        subst hy
        obtain ⟨x, hx, rfl⟩ := enumD_get 0 _ _ _ hd
        rw [List.getElem?_map] at hx
        have hj : j < sets.length := by
          by_cases c : j < sets.length
          · exact c
          · rw [List.getElem?_eq_none (by omega)] at hx
            cases hx
        rw [List.getElem?_eq_getElem hj] at hx
        have ex : x = setD (sets.getD j []) := by
          have : some (setD sets[j]) = some x := hx
          rw [← Option.some.inj this]
          simp [List.getD_eq_getElem?_getD, hj]
        subst ex
        have hmem : sets.getD j [] ∈ sets := by
          simp [List.getD_eq_getElem?_getD, hj]
        have hz0 := hz _ hmem
        have pl := len_flat (g := addP (AdOf s) k sets t) (b := bd k sets.length) (List.range j) fun i hi => add_len (by have := List.mem_range.mp hi; omega)
        rw [List.length_range] at pl
        have mo : j * bd k sets.length ≤ sets.length * bd k sets.length := Nat.mul_le_mul_right _ (Nat.le_of_lt hj)
        have b1 : bd k sets.length ≤ 1000 := by
          have : 1 * bd k sets.length ≤ sets.length * bd k sets.length := Nat.mul_le_mul_right _ (by omega)
          omega
        have ln : (sets.take j ++ [sets.getD j [] ++ [t]] ++ sets.drop (j + 1)).length = sets.length := by
          simp
          omega
        refine ⟨PR m s sets t (some (.val (.lst ((partP (AdOf s) k (sets ++ [[t]]) (t + 1) ++ (List.range j).flatMap (addP (AdOf s) k sets t)).map nI)))) (some (.val (nI j))) (some (.val (setD (sets.getD j [])))) none, _, ?_, pTurn_run (k := k) hj (by omega) (by omega) (by rw [List.length_append]; omega) (parts_run m s hm k n _ (t + 1) (by omega) (by omega) (by rw [ln]; exact b1) (by rw [ln]; omega) (fun z hz2 => ?_)), some (.val (nI j)), some (.val (setD (sets.getD j []))), ?_⟩
        · rw [Nat.zero_add]
          rfl
        · rcases List.mem_append.mp hz2 with q | q
          · rcases List.mem_append.mp q with q | q
            · have := hz z (List.mem_of_mem_take q)
              omega
            · rw [List.mem_singleton.mp q, List.length_append, List.length_singleton]
              omega
          · have := hz z (List.mem_of_mem_drop q)
            omega
        · rw [List.range_succ, List.flatMap_append, List.append_assoc]
          simp)
    have en : (enumD 0 (sets.map setD)).length = sets.length := by rw [enumD_len, List.length_map]
    subst l2
    rw [en] at l1
    refine ⟨.val (.lst ((partP (AdOf s) (k + 1) sets t).map nI)), ?_, rfl⟩
    show m_law_partsB (m_law_partsR n) _ = _
    rw [partsB_eq]
    exact f_ret rfl (le_of rfl) (s_seq (s_ifF (e_op (y := .val (nI m)) (e_v rfl) (e_op (e_v rfl) e_c (pl_0 m (gr s))) (by
      show fEq (nI t) (nI m) = _
      rw [eq_nat]
      have : (t == m) = false := beq_eq_false_iff_ne.mpr (by omega)
      rw [this])) s_nx) (s_seq new (s_seq l1 (s_ret (e_v rfl))))) (le_of rfl)
end
end VM

end
section
open PySem PySem.Spec VL L2
namespace VL
section
variable {ρ : Rho} {a b : M} {ms ks : MA} {x y o : O} {ds es : List D}
theorem e_getO {c : Nat} {fn : Fn} {fs : List (Str × D)} {os : List O} (h1 : RunE a ρ x) (h2 : RunE b ρ y) (e : x.frz = .ins c fs) (h : fn [.val (.ins c fs), .val y.frz] = some (.ok o, os)) : RunE (mGetO c fn a b) ρ o := by
  unfold RunE mGetO
  rw [h1]
  simp only [bnd]
  rw [h2]
  simp only [e, if_pos, onData]
  show (match fn [.val (.ins c fs), .val y.frz] with | some (r, _) => some (r, ρ) | none => none) = _
  rw [h]
theorem dsOnly_d : ∀ ds : List D, dsOnly (ds.map AI.d) = some ds
  | [] => rfl
  | d :: ds => by
    simp [dsOnly, dsOnly_d ds]
theorem e_ckw {f : List D → List D → Option O} (h1 : RunA ms ρ ds) (h2 : RunA ks ρ es) (h : f ds es = some o) : RunE (mCKw f ms ks) ρ o := by
  unfold RunE mCKw
  rw [h1]
  simp only [bnd]
  rw [h2]
  simp only [dsOnly_d, h]
  rfl
end
end VL
namespace VM
open VG
theorem inV_nat (x : Nat) : ∀ l : List Nat, inV (toV (nI x)) ((l.map nI).map toV) = decide (x ∈ l)
  | [] => by simp [inV]
  | y :: l => by
    have ih := inV_nat x l
    unfold inV at ih ⊢
    have e : eqV (toV (nI y)) (toV (nI x)) = decide (y = x) := by
      show eqV (.int (y : Int)) (.int (x : Int)) = _
      rw [eqV_int]
      exact decide_eq_decide.mpr (by omega)
    simp only [List.map_cons, List.any_cons, ih, e]
    by_cases c : x = y
    · subst c
      simp
    · have c' : ¬ y = x := fun z => c z.symm
      simp [c, c']
theorem in_nat (neg : Bool) (x : Nat) (l : List Nat) : fInB neg (nI x) (.lst (l.map nI)) = some (.val (.bl (if neg = true then !decide (x ∈ l) else decide (x ∈ l)))) := by
  have fl : (l.map nI).all flatD = true := by
    rw [List.all_eq_true]
    intro d hd
    obtain ⟨z, _, rfl⟩ := List.mem_map.mp hd
    rfl
  have f0 : flatD (nI x) = true := rfl
  have e : fIn neg (nI x) (.lst (l.map nI)) = some (.val (.bl (if neg = true then !decide (x ∈ l) else decide (x ∈ l)))) := by
    simp only [fIn, fl, f0, Bool.and_self, if_true, inV_nat]
  have e0 : fDIn neg (nI x) (.lst (l.map nI)) = none := rfl
  simp only [fInB, fOr, fInA, e0, e]
end VM

end
section
open PySem PySem.Spec VL L2
namespace VM
open VG
/-! ### the most of ints -/
theorem toPys_nat : ∀ r : List Nat, toPys (r.map nI) = some (r.map fun (x : Nat) => PyData.int (x : Int))
  | [] => rfl
  | x :: r => by
    rw [List.map_cons, List.map_cons]
    unfold toPys
    rw [toPys_nat r]
    rfl
theorem plain_nat : ∀ r : List Nat, PyData.plainAll (r.map fun (x : Nat) => PyData.int (x : Int)) = true
  | [] => rfl
  | x :: r => by
    rw [List.map_cons]
    unfold PyData.plainAll
    rw [plain_nat r]
    rfl
theorem depth_nat : ∀ r : List Nat, PyData.depthAll (r.map fun (x : Nat) => PyData.int (x : Int)) = 0
  | [] => rfl
  | x :: r => by
    rw [List.map_cons]
    unfold PyData.depthAll
    rw [depth_nat r]
    rfl
theorem nem_nat : ∀ r : List Nat, nemDs (r.map nI) = true
  | [] => rfl
  | x :: r => by
    rw [List.map_cons]
    unfold nemDs
    rw [nem_nat r]
    rfl
theorem mm_nat (r : List Nat) : mmOk (r.map fun (x : Nat) => PyData.int (x : Int)) = true := by
  unfold mmOk akin
  rw [plain_nat, depth_nat]
  have a : ((r.map fun (x : Nat) => PyData.int (x : Int)).all fun p => (r.map fun (x : Nat) => PyData.int (x : Int)).all fun q => PySem.W.alike p q) = true := by
    simp only [List.all_map, List.all_eq_true, Function.comp]
    intro x _ y _
    rfl
  have b : (r.map fun (x : Nat) => PyData.int (x : Int)).all someD = true := by
    simp only [List.all_map, List.all_eq_true, Function.comp]
    intro x _
    rfl
  rw [a, b]
  rfl
theorem foldl_max : ∀ (r : List Nat) (n : Nat), (r.map fun (x : Nat) => (x : Int)).foldl max (n : Int) = ((max (n + 1) (nr r) : Nat) : Int) - 1
  | [], n => by
    show (n : Int) = ((max (n + 1) 0 : Nat) : Int) - 1
    omega
  | x :: r, n => by
    rw [List.map_cons, List.foldl_cons]
    have e : max (n : Int) (x : Int) = ((max n x : Nat) : Int) := by omega
    rw [e, foldl_max r (max n x)]
    show _ = ((max (n + 1) (max (x + 1) (nr r)) : Nat) : Int) - 1
    omega
theorem maxI (x : Nat) (r : List Nat) : PySem.W.maxD (.int (x : Int)) (r.map fun (x : Nat) => PyData.int (x : Int)) = .int ((nr (x :: r) : Int) - 1) := by
  have e : (r.map fun (x : Nat) => PyData.int (x : Int)) = (r.map fun (x : Nat) => (x : Int)).map PyData.int := by simp
  rw [e, PySem.W.maxD_ints, foldl_max]
  rfl
theorem best_nat (r : List Nat) (h : r ≠ []) : fBest true [.tup (r.map nI)] = some (.val (.int ((nr r : Int) - 1))) := by
  obtain ⟨x, r, rfl⟩ : ∃ x t, r = x :: t := by
    cases r with
    | nil => exact absurd rfl h
    | cons x t => exact ⟨x, t, rfl⟩
  have m := mm_nat (x :: r)
  have n := nem_nat (x :: r)
  show (toPys ((x :: r).map nI)).bind _ = _
  rw [toPys_nat]
  simp only [List.map_cons] at m n ⊢
  simp only [Option.bind, m, n, Bool.and_self, if_true, bestD, maxI]
  rfl
theorem bestD_nat (r : List Nat) : fBestD true [.tup (r.map nI)] [.int (-1)] = some (.val (.int ((nr r : Int) - 1))) := by
  have m := mm_nat r
  have n := nem_nat r
  show (toPys (r.map nI)).bind _ = _
  rw [toPys_nat]
  cases r with
  | nil => rfl
  | cons x r =>
    simp only [List.map_cons] at m n ⊢
    simp only [Option.bind, m, n, Bool.and_self, if_true, bestD, maxI]
    rfl
/-! ### the rivals of one, in nats -/
def nbs (m : Nat) (s : List (Nat × Nat)) (i : Nat) : List Nat := (List.range m).filter fun o => !decide (o = i) && AdOf s o i
theorem near_nat (m : Nat) (s : List (Nat × Nat)) (i : Nat) : near m (gr s) (i : Int) = (nbs m s i).map fun (o : Nat) => (o : Int) := by
  unfold near nbs
  rw [List.filter_map]
  congr 1
  refine List.filter_congr fun o _ => ?_
  have e : decide ((min (i : Int) (o : Int), max (i : Int) (o : Int)) ∈ gr s) = AdOf s o i := by
    have := isIn_nat s i o
    unfold isIn at this
    rw [this]
    unfold AdOf
    rw [Nat.min_comm, Nat.max_comm]
  show (!decide ((o : Int) = (i : Int)) && decide ((min (i : Int) (o : Int), max (i : Int) (o : Int)) ∈ gr s)) = _
  rw [e]
  have : decide ((o : Int) = (i : Int)) = decide (o = i) := decide_eq_decide.mpr (by omega)
  rw [this]
theorem okc_nbs {m : Nat} {s : List (Nat × Nat)} {r : List Nat} (hr : r.length < m) (x : Nat) : (!decide (x ∈ ((nbs m s r.length).filter fun o => decide (o < r.length)).map fun o => r.getD o 0)) = okc (AdOf s) r x := by
  rw [Bool.eq_iff_iff, okc_iff]
  unfold nbs
  simp only [Bool.not_eq_true', decide_eq_false_iff_not, List.mem_map, List.mem_filter, List.mem_range, Bool.and_eq_true, decide_eq_true_eq]
  constructor
  · intro h i hi e
    cases c : AdOf s i r.length with
    | false => rfl
    | true => exact absurd ⟨i, ⟨⟨by omega, by omega, c⟩, hi⟩, e⟩ h
  · rintro h ⟨o, ⟨⟨h1, h2, h3⟩, h4⟩, h5⟩
    rw [h o h4 h5] at h3
    cases h3
end VM

end
section
open PySem PySem.Spec VL L2
namespace VM
open VG
/-- what is asked of the drawn pairs -/
structure OkG (m : Nat) (s : List (Nat × Nat)) : Prop where
  g : Good m (gr s)
  h1 : 1 ≤ m
  h6 : m ≤ 6
theorem lt_nat (x y : Nat) : fOr (fCmp fun i j => decide (i < j)) fLtT (nI x) (nI y) = some (.val (.bl (decide (x < y)))) := by
  show some (O.val (.bl (decide ((x : Int) < (y : Int))))) = _
  have : decide ((x : Int) < (y : Int)) = decide (x < y) := decide_eq_decide.mpr (by omega)
  rw [this]
def tupI (r : List Nat) : D := .tup (r.map nI)
def gNear : M := mLc (iWalkA (mGetO 5 m_Rivals___getitem__ (mVar 0) (mVar 2))) [4] (.nm 4) (mOp2 (fOr (fCmp fun i j => decide (i < j)) fLtT) (mVar 4) (mVar 2)) (mVar 4)
def gWith : M := mLc (iWalkA (mVar 3)) [4] (.nm 4) mYes (mOp2 fIxA (mVar 5) (mVar 4))
def gNext : M := mLc2 (iWalkA (mVar 1)) [5, 6] (.nm 5) (iRange1 (aCons (mOp2 fAddA (mCKw (fBestD true) (aCons (mVar 5) aNil) (aCons (mUn fNeg (mC (.int (1)))) aNil)) (mC (.int (2)))) aNil)) [6] (.nm 6) (mOp2 (fInB true) (mVar 6) gWith) (mOp2 fAddA (mVar 5) (mTup (aCons (mVar 6) aNil)))
theorem all_eq : m_all_partings = mFn0 1 7 (sSeq (sAsgV 1 (mLst (aCons (mTup aNil) aNil))) (sSeq (sFor (iRange1 (aCons (mFld [5] "many" (mVar 0)) aNil)) (.nm 2) (sSeq (sAsgV 3 gNear) (sAsgV 1 gNext))) (sRet (mVar 1)))) := rfl
section
variable {m : Nat} {s : List (Nat × Nat)} {f n x y z : Option O} {i : Nat} {rs : List (List Nat)}
def GR (m : Nat) (s : List (Nat × Nat)) (f : Option O) (i : Nat) (n x y z : Option O) : Rho := [some (.val (rivD m (gr s))), f, some (.val (nI i)), n, x, y, z]
def nb2 (m : Nat) (s : List (Nat × Nat)) (i : Nat) : List Nat := (nbs m s i).filter fun o => decide (o < i)
theorem nbs_len (m : Nat) (s : List (Nat × Nat)) (i : Nat) : (nbs m s i).length ≤ m := by
  unfold nbs
  exact Nat.le_trans (List.length_filter_le _ _) (by simp)
theorem gNear_run (G : OkG m s) (hi : i < m) : RunE gNear (GR m s f i n none y z) (.lst ((nb2 m s i).map nI)) := by
  have gi := getitem m (gr s) G.g (i : Int) ⟨by omega, by omega⟩
  rw [near_nat] at gi
  have e0 : ((nbs m s i).map fun (o : Nat) => (o : Int)).map D.int = (nbs m s i).map nI := by simp [nI]
  rw [e0] at gi
  have h6 := G.h6
  have l := nbs_len m s i
  unfold nb2
  refine e_lcm (f := nI) (l := nbs m s i) (fun o => GR m s f i n (some (.val (nI o))) y z) (fun o => decide (o < i)) nI (i_wlk (e_getO (e_v rfl) (e_v rfl) rfl gi) rfl) rfl (by omega) fun o ho => ⟨rfl, rfl, e_op (e_v rfl) (e_v rfl) (lt_nat _ _), fun _ => ⟨_, e_v rfl, rfl⟩⟩
theorem gWith_run {r : List Nat} {v : Option O} (hl : (nb2 m s i).length ≤ 1000) (hr : i ≤ r.length) : RunE gWith (GR m s f i (some (.val (.lst ((nb2 m s i).map nI)))) none (some (.val (tupI r))) v) (.lst (((nb2 m s i).map fun o => r.getD o 0).map nI)) := by
  have := e_lcma (f := nI) (l := nb2 m s i) (me := mOp2 fIxA (mVar 5) (mVar 4)) (vs := [4]) (q := .nm 4) (mi := iWalkA (mVar 3)) (ρ := GR m s f i (some (.val (.lst ((nb2 m s i).map nI)))) none (some (.val (tupI r))) v) (fun o => GR m s f i (some (.val (.lst ((nb2 m s i).map nI)))) (some (.val (nI o))) (some (.val (tupI r))) v) (fun o => nI (r.getD o 0)) (i_wlk (e_v rfl) rfl) rfl (by omega) fun o ho => by
    have : o < i := by
      unfold nb2 at ho
      exact of_decide_eq_true (List.mem_filter.mp ho).2
    refine ⟨rfl, rfl, _, e_op (e_v rfl) (e_v rfl) (ix_tup (x := nI (r.getD o 0)) ?_), rfl⟩
    have h : o < r.length := by omega
    simp [h]
  rw [List.map_map]
  exact this
theorem gNext_run (G : OkG m s) (hi : i < m) (hr : ∀ r ∈ rs, r.length = i) (hb : (rs.map fun r => nr r + 1).sum ≤ 100000) :
    RunE gNext (GR m s (some (.val (.lst (rs.map tupI)))) i (some (.val (.lst ((nb2 m s i).map nI)))) none none none) (.lst ((rs.flatMap (ch (AdOf s))).map tupI)) := by
  have h6 := G.h6
  have nl : (nb2 m s i).length ≤ 1000 := by
    have := nbs_len m s i
    have : (nb2 m s i).length ≤ (nbs m s i).length := List.length_filter_le _ _
    omega
  have := e_lc2m (f := tupI) (k := fun _ => nI) (l := rs) (mi := iWalkA (mVar 1)) (vs := [5, 6]) (vs1 := [6]) (q := .nm 5) (q1 := .nm 6) (mi1 := iRange1 (aCons (mOp2 fAddA (mCKw (fBestD true) (aCons (mVar 5) aNil) (aCons (mUn fNeg (mC (.int (1)))) aNil)) (mC (.int (2)))) aNil)) (mt := mOp2 (fInB true) (mVar 6) gWith) (me := mOp2 fAddA (mVar 5) (mTup (aCons (mVar 6) aNil)))
    (ρ := GR m s (some (.val (.lst (rs.map tupI)))) i (some (.val (.lst ((nb2 m s i).map nI)))) none none none) 0
    (fun r => GR m s (some (.val (.lst (rs.map tupI)))) i (some (.val (.lst ((nb2 m s i).map nI)))) none (some (.val (tupI r))) none) (fun r => List.range (nr r + 1)) (fun r x => GR m s (some (.val (.lst (rs.map tupI)))) i (some (.val (.lst ((nb2 m s i).map nI)))) none (some (.val (tupI r))) (some (.val (nI x)))) (fun r x => okc (AdOf s) r x) (fun r x => tupI (r ++ [x]))
    (i_wlk (e_v rfl) rfl) rfl (by simpa using hb) fun r hm => by
      have hl := hr r hm
      have hn : nr r ≤ 100000 := by
        have : ∀ l : List (List Nat), r ∈ l → nr r ≤ (l.map fun r => nr r + 1).sum := fun l => by
          induction l with
          | nil => intro h; cases h
          | cons a l ih =>
            intro h
            rw [List.map_cons, List.sum_cons]
            rcases List.mem_cons.mp h with e | h
            · subst e; omega
            · have := ih h; omega
        have := this rs hm
        omega
      refine ⟨rfl, rfl, i_rng (n := nr r + 1) ?_ (by omega), rfl, fun x hx => ⟨rfl, rfl, ?_, fun _ => ⟨_, e_op (e_v rfl) (e_tup (a_cons (e_v rfl) a_nil) (le_of rfl)) (add_tup (by show (r.map nI).length + 1 ≤ 100000; rw [List.length_map]; omega)), ?_⟩⟩⟩
      · have := a_cons (e_op (f := fAddA) (e_ckw (f := fBestD true) (ks := aCons (mUn fNeg (mC (.int (1)))) aNil) (a_cons (e_v (i := 5) (ρ := GR m s (some (.val (.lst (rs.map tupI)))) i (some (.val (.lst ((nb2 m s i).map nI)))) none (some (.val (tupI r))) none) (d := tupI r) rfl) a_nil) (a_cons (e_un (e_c (d := .int 1)) rfl) a_nil) (bestD_nat r)) (e_c (d := .int 2)) (add_int _ _)) a_nil
        have e : ((nr r : Int) - 1) + 2 = ((nr r + 1 : Nat) : Int) := by omega
        have t : RunA _ _ [D.int (((nr r : Int) - 1) + 2)] := this
        rw [e] at t
        exact t
      · have := e_op (f := fInB true) (e_v (i := 6) (ρ := GR m s (some (.val (.lst (rs.map tupI)))) i (some (.val (.lst ((nb2 m s i).map nI)))) none (some (.val (tupI r))) (some (.val (nI x)))) (d := nI x) rfl) (gWith_run nl (by omega)) (in_nat true x _)
        subst hl
        have e : (!decide (x ∈ (nb2 m s r.length).map fun o => r.getD o 0)) = okc (AdOf s) r x := okc_nbs hi x
        simp only [if_true] at this
        rw [e] at this
        exact this
      · show D.tup (r.map nI ++ [nI x]) = _
        unfold tupI
        simp
  have e : ∀ l : List (List Nat), (l.flatMap fun r => ((List.range (nr r + 1)).filter (okc (AdOf s) r)).map fun x => tupI (r ++ [x])) = (l.flatMap (ch (AdOf s))).map tupI := fun l => by
    rw [map_flat]
    congr 1
    funext r
    unfold ch
    rw [List.map_map]
    rfl
  rw [← e]
  exact this
end
theorem grow_len (A : Ad) : ∀ k, (∀ r ∈ grow A k, r.length = k ∧ nr r ≤ k) ∧ (k ≤ 6 → (grow A k).length ≤ 720)
  | k => by
    have mem : ∀ r ∈ grow A k, r.length = k ∧ nr r ≤ k := fun r hr => by
      rw [grow_is] at hr
      have := ext_nr hr
      have e0 : nr [] = 0 := rfl
      have e1 : ([] : List Nat).length = 0 := rfl
      omega
    have stp : ∀ j, (grow A (j + 1)).length ≤ (j + 1) * (grow A j).length := fun j => by
      show ((grow A j).flatMap (ch A)).length ≤ _
      have : ∀ l : List (List Nat), (∀ r ∈ l, nr r ≤ j) → (l.flatMap (ch A)).length ≤ (j + 1) * l.length := fun l => by
        induction l with
        | nil => intro _; simp
        | cons r l ih =>
          intro h
          have h1 := h r List.mem_cons_self
          have h2 := ih fun x hx => h x (List.mem_cons_of_mem _ hx)
          have h3 : (ch A r).length ≤ nr r + 1 := by
            unfold ch
            rw [List.length_map]
            exact Nat.le_trans (List.length_filter_le _ _) (by simp)
          rw [List.flatMap_cons, List.length_append, List.length_cons, Nat.mul_add]
          omega
      refine this _ fun r hr => ?_
      rw [grow_is] at hr
      have := ext_nr hr
      have e0 : nr [] = 0 := rfl
      omega
    refine ⟨mem, fun hk => ?_⟩
    have z0 : (grow A 0).length = 1 := rfl
    have z1 : (grow A 1).length ≤ 1 * (grow A 0).length := stp 0
    have z2 : (grow A 2).length ≤ 2 * (grow A 1).length := stp 1
    have z3 : (grow A 3).length ≤ 3 * (grow A 2).length := stp 2
    have z4 : (grow A 4).length ≤ 4 * (grow A 3).length := stp 3
    have z5 : (grow A 5).length ≤ 5 * (grow A 4).length := stp 4
    have z6 : (grow A 6).length ≤ 6 * (grow A 5).length := stp 5
    have : k = 0 ∨ k = 1 ∨ k = 2 ∨ k = 3 ∨ k = 4 ∨ k = 5 ∨ k = 6 := by omega
    rcases this with rfl | rfl | rfl | rfl | rfl | rfl | rfl <;> omega
theorem all_run (m : Nat) (s : List (Nat × Nat)) (G : OkG m s) : m_all_partings ([rivD m (gr s)].map .val) = some (.ok (.val (.lst ((grow (AdOf s) m).map tupI))), [rivD m (gr s)].map .val) := by
  have h6 := G.h6
  have fm : RunE (mFld [5] "many" (mVar 0)) [some (.val (rivD m (gr s))), some (.val (.lst [.tup []])), none, none, none, none, none] (.val (.int m)) := fld_many m (gr s) (e_v rfl) rfl
  obtain ⟨ρ', h1, i, n, h2⟩ := s_form (s := sSeq (sAsgV 3 gNear) (sAsgV 1 gNext)) (q := .nm 2) (p := []) (f := nI) (l := List.range m) (mi := iRange1 (aCons (mFld [5] "many" (mVar 0)) aNil)) (ρ := [some (.val (rivD m (gr s))), some (.val (.lst [.tup []])), none, none, none, none, none])
    (fun j ρ => ∃ i n, ρ = [some (.val (rivD m (gr s))), some (.val (.lst ((grow (AdOf s) j).map tupI))), i, n, none, none, none])
    (i_rng (a_cons fm a_nil) (by omega)) ⟨none, none, rfl⟩ (fun j x ρ hx ⟨i, n, hy⟩ => by
      subst hy
      have hj : j < m := by
        by_cases c : j < m
        · exact c
        · rw [List.getElem?_eq_none (by simp; omega)] at hx
          cases hx
      have : x = j := by
        rw [List.getElem?_range hj] at hx
        exact (Option.some.inj hx).symm
      subst this
      obtain ⟨gl, gm⟩ := grow_len (AdOf s) x
      have gm := gm (by omega)
      have hb : ((grow (AdOf s) x).map fun r => nr r + 1).sum ≤ 100000 := by
        have : ∀ l : List (List Nat), (∀ r ∈ l, nr r ≤ 6) → (l.map fun r => nr r + 1).sum ≤ 7 * l.length := fun l => by
          induction l with
          | nil => intro _; simp
          | cons r l ih =>
            intro h
            have h1 := h r List.mem_cons_self
            have h2 := ih fun x hx => h x (List.mem_cons_of_mem _ hx)
            rw [List.map_cons, List.sum_cons, List.length_cons]
            omega
        have := this (grow (AdOf s) x) fun r hr => by have := (gl r hr).2; omega
        omega
      exact ⟨GR m s (some (.val (.lst ((grow (AdOf s) x).map tupI)))) x n none none none, _, rfl, s_seq (s_set (gNear_run G hj) (le_of rfl) (by decide)) (s_set (gNext_run G hj (fun r hr => (gl r hr).1) hb) (le_of rfl) (by decide)), some (.val (nI x)), some (.val (.lst ((nb2 m s x).map nI))), rfl⟩)
  subst h2
  rw [List.length_range] at h1
  rw [all_eq]
  exact f_ret rfl (le_of rfl) (s_seq (s_set (e_lst (a_cons (e_tup a_nil (le_of rfl)) a_nil) (le_of rfl)) (le_of rfl) (by decide)) (s_seq h1 (s_ret (e_v rfl)))) (le_of rfl)
end VM

end
section
open PySem PySem.Spec VL L2
namespace VL
section
variable {ρ ρ1 : Rho} {a b : M} {x y o : O} {i : Nat} {p : List Nat}
theorem s_augL {g : Int → Int → Int} {ds : List D} {k : Nat} {u v : Int} (hi : ρ[i]? = some (some (.lst ds))) (h1 : RunE a ρ x) (e1 : x.frz = .int (k : Int)) (hk : ds[k]? = some (.int u)) (h2 : RunE b ρ y) (e2 : y.frz = .int v) : RunS (sAugL i g a b) p ρ .nx (ρ.set i (some (.lst (ds.set k (.int (g u v)))))) := by
  have hl : k < ds.length := (List.getElem?_eq_some_iff.mp hk).1
  have hx : ixN ds.length (k : Int) = some k := by
    unfold ixN
    rw [if_pos (by omega), if_pos (by omega), Int.toNat_natCast]
  have lk : look ρ i = some (.lst ds) := by
    unfold look
    rw [hi]
    rfl
  unfold RunS sAugL
  rw [lk, h1]
  simp only [Option.bind, bnd, hi, e1, hx, hk, h2, e2, if_true]
theorem s_retMv {ds : List D} (hi : ρ[i]? = some (some (.lst ds))) : RunS (sRet (mMv i)) p ρ (.ret (.lst ds)) (ρ.set i none) := by
  unfold RunS sRet mMv
  rw [hi]
  rfl
end
end VL
namespace VM
open VG
theorem mul_L {x y : Int} (h : -(2 ^ 64) < x ∧ x < 2 ^ 64) : fMulA (.int x) (.int y) = some (.val (.int (x * y))) := by
  have : bMul x y = true := by
    unfold bMul
    simp only [Bool.or_eq_true, Bool.and_eq_true, decide_eq_true_eq]
    exact .inl h
  simp [fMulA, fOr, fIntC, this]
theorem mul_R {x y : Int} (h : -(2 ^ 64) < y ∧ y < 2 ^ 64) : fMulA (.int x) (.int y) = some (.val (.int (x * y))) := by
  have : bMul x y = true := by
    unfold bMul
    simp only [Bool.or_eq_true, Bool.and_eq_true, decide_eq_true_eq]
    exact .inr h
  simp [fMulA, fOr, fIntC, this]
theorem rep_lst (d : D) {n : Nat} (h : n ≤ 1000) : fMulA (.lst [d]) (.int (n : Int)) = some (.lst (List.replicate n d)) := by
  have c : (-1000000 : Int) ≤ (n : Int) ∧ (n : Int) ≤ 1000000 ∧ [d].length * (n : Int).toNat ≤ 100000 := by
    refine ⟨by omega, by omega, ?_⟩
    show 1 * _ ≤ _
    rw [Int.toNat_natCast]
    omega
  have e : fRepL (.lst [d]) (.int (n : Int)) = some (.lst (List.replicate n d)) := by
    show (if (-1000000 : Int) ≤ (n : Int) ∧ (n : Int) ≤ 1000000 ∧ [d].length * (n : Int).toNat ≤ 100000 then some (O.lst (List.replicate (n : Int).toNat [d]).flatten) else none) = _
    rw [if_pos c, Int.toNat_natCast, List.flatten_replicate_singleton]
  simp only [fMulA, fOr, fIntC, fRepT, e]
theorem check_riv (m : Nat) (S : List (Int × Int)) : m_check_rivals ([rivD m S].map .val) = some (.ok (.val .non), [rivD m S].map .val) := by rfl
/-! ### partings -/
def cntD (m : Nat) (l : List Nat) : List D := (List.range (m + 1)).map fun k => nI (l.count k)
theorem cnt_set {m : Nat} {l : List Nat} {k : Nat} (hk : k ≤ m) : (cntD m l).set k (.int ((l.count k : Nat) + 1 : Int)) = cntD m (l ++ [k]) := by
  unfold cntD
  refine List.ext_getElem? fun i => ?_
  by_cases c : i < m + 1
  · rw [List.getElem?_set]
    by_cases e : k = i
    · subst e
      simp [c, nI]
    · simp [c, e]
      try rw [List.count_cons_of_ne (by omega)]
      try simp
  · rw [List.getElem?_eq_none (by simp; omega), List.getElem?_eq_none (by simp; omega)]
theorem cnt_get {m : Nat} (l : List Nat) {k : Nat} (h : k ≤ m) : (cntD m l)[k]? = some (nI (l.count k)) := by
  have : k < m + 1 := by omega
  unfold cntD
  simp [this]
def cTurn : MS := sAugL 1 (fun i j => i + j) (mOp2 fAddA (mCB (fBest true) (aCons (mVar 2) aNil)) (mC (.int (1)))) (mC (.int (1)))
theorem part_eq : m_partings = mFn0 1 3 (sSeq (sDrop (mCall m_check_rivals (aCons (mVar 0) aNil))) (sSeq (sAsgO 1 (mOp2 fMulA (mLst (aCons (mC (.int (0))) aNil)) (mOp2 fAddA (mFld [5] "many" (mVar 0)) (mC (.int (1)))))) (sSeq (sFor (iWalkA (mCall m_all_partings (aCons (mVar 0) aNil))) (.nm 2) cTurn) (sRet (mMv 1))))) := rfl
theorem take_snoc {α : Type} {l : List α} {i : Nat} {x : α} (h : l[i]? = some x) : l.take (i + 1) = l.take i ++ [x] := by
  rw [List.take_add_one, h]
  rfl
theorem partings_run (m : Nat) (s : List (Nat × Nat)) (G : OkG m s) : m_partings ([rivD m (gr s)].map .val) = some (.ok (.lst (cntD m ((grow (AdOf s) m).map nr))), [rivD m (gr s)].map .val) := by
  have h6 := G.h6
  have h1 := G.h1
  have fm : RunE (mFld [5] "many" (mVar 0)) [some (.val (rivD m (gr s))), none, none] (.val (.int m)) := fld_many m (gr s) (e_v rfl) rfl
  have z0 : cntD m [] = List.replicate (m + 1) (.int 0) := by
    unfold cntD
    refine List.ext_getElem? fun i => ?_
    simp only [List.getElem?_map, List.getElem?_replicate]
    by_cases c : i < m + 1
    · simp [c, nI]
    · simp [c]
  obtain ⟨ρ', l1, y, l2⟩ := s_form (s := cTurn) (q := .nm 2) (p := []) (f := tupI) (l := grow (AdOf s) m) (mi := iWalkA (mCall m_all_partings (aCons (mVar 0) aNil))) (ρ := [some (.val (rivD m (gr s))), some (.lst (cntD m [])), none])
    (fun j ρ => ∃ y, ρ = [some (.val (rivD m (gr s))), some (.lst (cntD m (((grow (AdOf s) m).take j).map nr))), y])
    (i_wlk (e_call (a_cons (e_v rfl) a_nil) (all_run m s G)) rfl) ⟨none, rfl⟩ (fun j r ρ hr ⟨y, hy⟩ => by
      subst hy
      have hm : r ∈ grow (AdOf s) m := List.mem_of_getElem? hr
      obtain ⟨g1, g2⟩ := (grow_len (AdOf s) m).1 r hm
      have ne : r ≠ [] := by
        rintro rfl
        simp at g1
        omega
      have e : ((nr r : Int) - 1) + 1 = ((nr r : Nat) : Int) := by omega
      refine ⟨_, _, rfl, s_augL (k := nr r) (u := ((((grow (AdOf s) m).take j).map nr).count (nr r) : Nat)) rfl (e_op (e_cb (a_cons (e_v rfl) a_nil) (best_nat r ne)) e_c (add_int _ _)) (show D.int ((nr r : Int) - 1 + 1) = D.int ((nr r : Nat) : Int) from by rw [e]) (cnt_get _ g2) e_c rfl, some (.val (tupI r)), ?_⟩
      rw [take_snoc hr, List.map_append, List.map_cons, List.map_nil, ← cnt_set g2]
      rfl)
  subst l2
  rw [List.take_length] at l1
  rw [part_eq]
  refine f_ret rfl (le_of rfl) (s_seq (s_drop (e_call (a_cons (e_v rfl) a_nil) (check_riv m (gr s)))) (s_seq (ρ1 := [some (.val (rivD m (gr s))), some (.lst (cntD m [])), none]) ?_ (s_seq l1 (s_retMv rfl)))) (le_of rfl)
  have := s_setO (i := 1) (p := []) (e_op (f := fMulA) (e_lst (a_cons (e_c (d := .int 0)) a_nil) (le_of rfl)) (e_op fm (e_c (d := .int 1)) (add_int _ _)) (by
    show fMulA (.lst [.int 0]) (.int ((m : Int) + 1)) = some (.lst (List.replicate (m + 1) (.int 0)))
    rw [nat1, rep_lst _ (by omega)])) (le_of rfl) (by decide)
  rw [z0]
  exact this
/-! ### choices, ways -/
def chTurn : MS := sAsgV 2 (mOp2 fMulA (mVar 2) (mOp2 (fInt fun i j => i - j) (mVar 0) (mVar 3)))
theorem choices_run (L k : Nat) (hL : L ≤ 1000) (hk : k ≤ 1000) : m_choices ([nI L, nI k].map .val) = some (.ok (.val (.int (fall (L : Int) k))), [nI L, nI k].map .val) := by
  obtain ⟨ρ', l1, y, l2⟩ := s_form (s := chTurn) (q := .nm 3) (p := []) (f := nI) (l := List.range k) (mi := iRange1 (aCons (mVar 1) aNil)) (ρ := [some (.val (nI L)), some (.val (nI k)), some (.val (.int 1)), none])
    (fun j ρ => ∃ y, ρ = [some (.val (nI L)), some (.val (nI k)), some (.val (.int (fall (L : Int) j))), y])
    (i_rng (a_cons (e_v rfl) a_nil) (by omega)) ⟨none, rfl⟩ (fun j x ρ hx ⟨y, hy⟩ => by
      subst hy
      have hj : j < k := by
        by_cases c : j < k
        · exact c
        · rw [List.getElem?_eq_none (by simp; omega)] at hx
          cases hx
      have : x = j := by
        rw [List.getElem?_range hj] at hx
        exact (Option.some.inj hx).symm
      subst this
      exact ⟨_, _, rfl, s_set (e_op (e_v rfl) (e_op (f := fInt fun i j => i - j) (e_v (d := nI L) rfl) (e_v (d := nI x) rfl) rfl) (mul_R (x := fall (L : Int) x) (y := (L : Int) - (x : Int)) ⟨by omega, by omega⟩)) (le_of rfl) (by decide), some (.val (nI x)), rfl⟩)
  subst l2
  rw [List.length_range] at l1
  exact f_ret (np := 2) (N := 4) rfl (le_of rfl) (s_seq (s_set e_c (le_of rfl) (by decide)) (s_seq l1 (s_ret (e_v rfl)))) (le_of rfl)
theorem enum_eq (xs : List D) : enumD 0 xs = (List.range xs.length).map fun i => .tup [nI i, xs.getD i .non] := by
  refine List.ext_getElem? fun i => ?_
  by_cases c : i < xs.length
  · have hl : i < (enumD 0 xs).length := by rw [enumD_len]; exact c
    have := enumD_get 0 xs i _ (List.getElem?_eq_getElem hl)
    obtain ⟨x, hx, e⟩ := this
    rw [List.getElem?_eq_getElem hl, e]
    simp [c, hx, nI]
    rw [List.getElem?_eq_getElem c] at hx
    simpa using hx.symm
  · rw [List.getElem?_eq_none (by rw [enumD_len]; omega), List.getElem?_eq_none (by simp; omega)]
theorem check_lim (L : Nat) (h : L ≤ 20) : m_check_limit ([nI L, .int 0, .int 20].map .val) = some (.ok (.val .non), [nI L, .int 0, .int 20].map .val) := by
  have i := isint (L : Int) 0 21
  have c : (0 : Int) ≤ L ∧ (L : Int) < 21 := by omega
  simp [c] at i
  exact f_nx (np := 3) (N := 3) rfl (le_of rfl) (s_ifF (e_not (u := true) (e_tru (e_call (a_cons (e_v rfl) (a_cons (e_v rfl) (a_cons (e_op (e_v rfl) e_c (add_int _ _)) a_nil))) i) rfl)) s_nx) (le_of rfl)
theorem cnt_getD {m : Nat} (l : List Nat) {i : Nat} (h : i < m + 1) : (cntD m l).getD i .non = nI (l.count i) := by
  unfold cntD
  simp [List.getD_eq_getElem?_getD, h]
theorem cnts_getD {A : Ad} {m i : Nat} (h : i < m + 1) : (cnts A m).getD i 0 = ((((grow A m).map nr).count i : Nat) : Int) := by
  unfold cnts
  simp [List.getD_eq_getElem?_getD, h]
theorem count_le (A : Ad) {m : Nat} (h : m ≤ 6) (k : Nat) : ((grow A m).map nr).count k ≤ 720 := by
  have := (grow_len A m).2 h
  have h2 := List.count_le_length (a := k) (l := (grow A m).map nr)
  rw [List.length_map] at h2
  omega
theorem ways_run (m : Nat) (s : List (Nat × Nat)) (G : OkG m s) (L : Nat) (hL : L ≤ 20) : m_ways ([rivD m (gr s), nI L].map .val) = some (.ok (.val (.int (W s L m))), [rivD m (gr s), nI L].map .val) := by
  have h6 := G.h6
  have lc := e_lcma (mi := iEnu (aCons (mCall m_partings (aCons (mVar 0) aNil)) aNil)) (vs := [2, 3]) (q := .tu ((.nm 2) :: (.nm 3) :: [])) (me := mOp2 fMulA (mVar 3) (mCall m_choices (aCons (mVar 1) (aCons (mVar 2) aNil)))) (f := fun i => D.tup [nI i, nI (((grow (AdOf s) m).map nr).count i)]) (l := List.range (m + 1)) (ρ := [some (.val (rivD m (gr s))), some (.val (nI L)), none, none])
    (fun i => [some (.val (rivD m (gr s))), some (.val (nI L)), some (.val (nI i)), some (.val (nI (((grow (AdOf s) m).map nr).count i)))]) (fun i => .int ((cnts (AdOf s) m).getD i 0 * fall (L : Int) i)) (by
      have := i_enu (ms := aCons (mCall m_partings (aCons (mVar 0) aNil)) aNil) (ρ := [some (.val (rivD m (gr s))), some (.val (nI L)), none, none]) (a_cons (e_call (a_cons (e_v rfl) a_nil) (partings_run m s G)) a_nil) rfl
      rw [enum_eq] at this
      have ln : (cntD m ((grow (AdOf s) m).map nr)).length = m + 1 := by simp [cntD]
      rw [ln] at this
      have e : ((List.range (m + 1)).map fun i => D.tup [nI i, (cntD m ((grow (AdOf s) m).map nr)).getD i .non]) = (List.range (m + 1)).map fun i => D.tup [nI i, nI (((grow (AdOf s) m).map nr).count i)] := List.map_congr_left fun i hi => by
        rw [cnt_getD _ (List.mem_range.mp hi)]
      rw [e] at this
      exact this) rfl (by simp; omega) fun i hi => by
        have hi := List.mem_range.mp hi
        have c7 := count_le (AdOf s) h6 i
        refine ⟨rfl, rfl, _, e_op (e_v rfl) (e_call (a_cons (e_v rfl) (a_cons (e_v rfl) a_nil)) (choices_run L i (by omega) (by omega))) (mul_L (by omega)), ?_⟩
        rw [cnts_getD hi]
        rfl
  have sm : fSum [.lst ((List.range (m + 1)).map fun i => D.int ((cnts (AdOf s) m).getD i 0 * fall (L : Int) i))] = some (.val (.int (W s L m))) := by
    have e : ((List.range (m + 1)).map fun i => D.int ((cnts (AdOf s) m).getD i 0 * fall (L : Int) i)) = ((List.range (m + 1)).map fun i => (cnts (AdOf s) m).getD i 0 * fall (L : Int) i).map D.int := by simp
    rw [e]
    show (intsD _).map _ = _
    rw [intsD_map, W_cnts]
    rfl
  exact f_ret (np := 2) (N := 4) rfl (le_of rfl) (s_seq (s_drop (e_call (a_cons (e_v rfl) a_nil) (check_riv m (gr s)))) (s_seq (s_drop (e_call (a_cons (e_v rfl) (a_cons e_c (a_cons e_c a_nil))) (check_lim L hL))) (s_ret (e_cb (a_cons lc a_nil) sm)))) (le_of rfl)
end VM

end
section
open PySem PySem.Spec VL L2
namespace VM
open VG
def iL (l : List Int) : D := .lst (l.map .int)
theorem zip_ints : ∀ xs ys : List Int, zipD (xs.map .int) (ys.map .int) = (xs.zip ys).map tupP
  | [], _ => by simp [zipD]
  | _ :: _, [] => by simp [zipD]
  | x :: xs, y :: ys => by
    simp [zipD, zip_ints xs ys, tupP]
theorem map_zip (f : Int → Int → Int) : ∀ xs ys : List Int, (xs.zip ys).map (fun p => f p.1 p.2) = List.zipWith f xs ys
  | [], _ => by simp
  | _ :: _, [] => by simp
  | x :: xs, y :: ys => by
    simp [map_zip f xs ys]
theorem map_zipD (f : Int → Int → Int) (xs ys : List Int) : (xs.zip ys).map (fun p => D.int (f p.1 p.2)) = (List.zipWith f xs ys).map .int := by
  rw [← map_zip, List.map_map]
  rfl
def qTot : M := mLc (iZip (aCons (mVar 2) (aCons (mVar 3) aNil))) [6, 7] (.tu ((.nm 6) :: (.nm 7) :: [])) mYes (mOp2 fAddA (mVar 6) (mOp2 fMulA (mVar 5) (mVar 7)))
def qPro : M := mLc (iZip (aCons (mOp2 fAddA (mLst (aCons (mC (.int (0))) aNil)) (mVar 3)) (aCons (mVar 3) aNil))) [8, 9] (.tu ((.nm 8) :: (.nm 9) :: [])) mYes (mOp2 (fInt fun i j => i - j) (mVar 8) (mOp2 fMulA (mVar 4) (mVar 9)))
theorem poly_eq : m_polynomial = mFn0 1 10 (sSeq (sAsgV 1 (mCall m_partings (aCons (mVar 0) aNil))) (sSeq (sAsgV 2 (mOp2 fMulA (mLst (aCons (mC (.int (0))) aNil)) (mCB (fOr1 fLen fLenD) (aCons (mVar 1) aNil)))) (sSeq (sAsgV 3 (mOp2 fAddA (mLst (aCons (mC (.int (1))) aNil)) (mOp2 fMulA (mLst (aCons (mC (.int (0))) aNil)) (mFld [5] "many" (mVar 0))))) (sSeq (sFor (iEnu (aCons (mVar 1) aNil)) (.tu ((.nm 4) :: (.nm 5) :: [])) (sSeq (sAsgV 2 qTot) (sAsgV 3 qPro))) (sRet (mVar 2)))))) := rfl
section
variable {m : Nat} {s : List (Nat × Nat)} {c : D} {a b : List Int} {x y : Option O}
def QR (m : Nat) (s : List (Nat × Nat)) (c : D) (a b : List Int) (x y u v w z : Option O) : Rho := [some (.val (rivD m (gr s))), some (.val c), some (.val (iL a)), some (.val (iL b)), x, y, u, v, w, z]
theorem qTot_run {k : Int} (hk : -(2 ^ 64) < k ∧ k < 2 ^ 64) (hl : a.length ≤ 1000) : RunE qTot (QR m s c a b x (some (.val (.int k))) none none none none) (.lst ((List.zipWith (fun p q => p + k * q) a b).map .int)) := by
  rw [← map_zipD]
  refine e_lcma (f := tupP) (l := a.zip b) (fun p => QR m s c a b x (some (.val (.int k))) (some (.val (.int p.1))) (some (.val (.int p.2))) none none) (fun p => .int (p.1 + k * p.2)) (by
    have := i_zip (ms := aCons (mVar 2) (aCons (mVar 3) aNil)) (ρ := QR m s c a b x (some (.val (.int k))) none none none none) (a_cons (e_v rfl) (a_cons (e_v rfl) a_nil)) (v := iL a) (w := iL b) rfl rfl
    rw [zip_ints] at this
    exact this) rfl (by rw [List.length_zip]; omega) fun p _ => ⟨rfl, rfl, _, e_op (e_v rfl) (e_op (e_v rfl) (e_v rfl) (mul_L hk)) (add_int _ _), rfl⟩
theorem qPro_run {i : Nat} {z : Option O} (hi : i ≤ 1000) (hl : b.length ≤ 1000) : RunE qPro (QR m s c a b (some (.val (nI i))) z none none none none) (.lst ((List.zipWith (fun p q => p - (i : Int) * q) (0 :: b) b).map .int)) := by
  rw [← map_zipD]
  refine e_lcma (f := tupP) (l := (0 :: b).zip b) (fun p => QR m s c a b (some (.val (nI i))) z none none (some (.val (.int p.1))) (some (.val (.int p.2)))) (fun p => .int (p.1 - (i : Int) * p.2)) (by
    have := i_zip (ms := aCons (mOp2 fAddA (mLst (aCons (mC (.int (0))) aNil)) (mVar 3)) (aCons (mVar 3) aNil)) (ρ := QR m s c a b (some (.val (nI i))) z none none none none) (a_cons (e_op (f := fAddA) (e_lst (a_cons (e_c (d := .int 0)) a_nil) (le_of rfl)) (e_v (d := iL b) rfl) (add_lst (xs := [.int 0]) (ys := b.map .int) (by
      show 1 + (b.map D.int).length ≤ 100000
      rw [List.length_map]
      omega))) (a_cons (e_v rfl) a_nil)) (v := iL (0 :: b)) (w := iL b) rfl rfl
    rw [zip_ints] at this
    exact this) rfl (by rw [List.length_zip]; omega) fun p _ => ⟨rfl, rfl, _, e_op (f := fInt fun i j => i - j) (e_v (d := .int p.1) rfl) (e_op (e_v rfl) (e_v (d := .int p.2) rfl) (mul_L (x := (i : Int)) ⟨by omega, by omega⟩)) rfl, rfl⟩
end
/-- the loop's states -/
def pst (m : Nat) (cs : List Int) : Nat → List Int × List Int
  | 0 => (List.replicate (m + 1) 0, 1 :: List.replicate m 0)
  | j + 1 => pstep (pst m cs j) j (cs.getD j 0)
theorem pst_PI (m : Nat) (cs : List Int) : ∀ j, j ≤ m + 1 → PI m cs j (pst m cs j)
  | 0, _ => PI.start m cs
  | j + 1, h => (pst_PI m cs j (by omega)).step (by omega)
def polyL (m : Nat) (s : List (Nat × Nat)) : List Int := (pst m (cnts (AdOf s) m) (m + 1)).1
theorem polyL_len (m : Nat) (s : List (Nat × Nat)) : (polyL m s).length = m + 1 := (pst_PI m _ (m + 1) (Nat.le_refl _)).l1
theorem polyL_ev (m : Nat) (s : List (Nat × Nat)) (L : Nat) : evP (polyL m s) (L : Int) = W s L m := by
  rw [W_cnts]
  exact (pst_PI m _ (m + 1) (Nat.le_refl _)).e1 _
theorem poly_run (m : Nat) (s : List (Nat × Nat)) (G : OkG m s) : m_polynomial ([rivD m (gr s)].map .val) = some (.ok (.val (iL (polyL m s))), [rivD m (gr s)].map .val) := by
  have h6 := G.h6
  have ln : (cntD m ((grow (AdOf s) m).map nr)).length = m + 1 := by simp [cntD]
  obtain ⟨ρ', l1, x, y, l2⟩ := s_form (s := sSeq (sAsgV 2 qTot) (sAsgV 3 qPro)) (q := .tu ((.nm 4) :: (.nm 5) :: [])) (p := []) (f := fun i => D.tup [nI i, (cntD m ((grow (AdOf s) m).map nr)).getD i .non]) (l := List.range (m + 1)) (mi := iEnu (aCons (mVar 1) aNil))
    (ρ := QR m s (.lst (cntD m ((grow (AdOf s) m).map nr))) (pst m (cnts (AdOf s) m) 0).1 (pst m (cnts (AdOf s) m) 0).2 none none none none none none)
    (fun j ρ => ∃ x y, ρ = QR m s (.lst (cntD m ((grow (AdOf s) m).map nr))) (pst m (cnts (AdOf s) m) j).1 (pst m (cnts (AdOf s) m) j).2 x y none none none none)
    (by
      have := i_enu (ms := aCons (mVar 1) aNil) (ρ := QR m s (.lst (cntD m ((grow (AdOf s) m).map nr))) (pst m (cnts (AdOf s) m) 0).1 (pst m (cnts (AdOf s) m) 0).2 none none none none none none) (a_cons (e_v rfl) a_nil) (v := .lst (cntD m ((grow (AdOf s) m).map nr))) rfl
      rw [enum_eq, ln] at this
      exact this) ⟨none, none, rfl⟩ (fun j x ρ hx ⟨y, z, hy⟩ => by
      subst hy
      have hj : j < m + 1 := by
        by_cases c : j < m + 1
        · exact c
        · rw [List.getElem?_eq_none (by simp; omega)] at hx
          cases hx
      have : x = j := by
        rw [List.getElem?_range hj] at hx
        exact (Option.some.inj hx).symm
      subst this
      have P := pst_PI m (cnts (AdOf s) m) x (by omega)
      have p1 := P.l1
      have p2 := P.l2
      have c7 := count_le (AdOf s) h6 x
      refine ⟨QR m s (.lst (cntD m ((grow (AdOf s) m).map nr))) (pst m (cnts (AdOf s) m) x).1 (pst m (cnts (AdOf s) m) x).2 (some (.val (nI x))) (some (.val (.int ((cnts (AdOf s) m).getD x 0)))) none none none none, _, ?_, s_seq (s_set (qTot_run (by rw [cnts_getD hj]; omega) (by omega)) (le_of rfl) (by decide)) (s_set (qPro_run (a := (pst m (cnts (AdOf s) m) (x + 1)).1) (z := some (.val (.int ((cnts (AdOf s) m).getD x 0)))) (by omega) (by omega)) (le_of rfl) (by decide)), some (.val (nI x)), some (.val (.int ((cnts (AdOf s) m).getD x 0))), rfl⟩
      show bindP [] _ (D.tup [nI x, (cntD m ((grow (AdOf s) m).map nr)).getD x .non]) _ = _
      rw [cnt_getD _ hj, cnts_getD hj]
      rfl)
  subst l2
  rw [List.length_range] at l1
  rw [poly_eq]
  refine f_ret (ds := [rivD m (gr s)]) rfl (le_of rfl) (s_seq (s_set (e_call (a_cons (e_v rfl) a_nil) (partings_run m s G)) (le_of rfl) (by decide)) (s_seq (ρ1 := [some (.val (rivD m (gr s))), some (.val (.lst (cntD m ((grow (AdOf s) m).map nr)))), some (.val (iL (List.replicate (m + 1) 0))), none, none, none, none, none, none, none]) ?_ (s_seq (ρ1 := QR m s (.lst (cntD m ((grow (AdOf s) m).map nr))) (pst m (cnts (AdOf s) m) 0).1 (pst m (cnts (AdOf s) m) 0).2 none none none none none none) ?_ (s_seq l1 (s_ret (e_v rfl)))))) (le_of rfl)
  · have := s_set (i := 2) (p := []) (ρ := [some (.val (rivD m (gr s))), some (.val (.lst (cntD m ((grow (AdOf s) m).map nr)))), none, none, none, none, none, none, none, none]) (e_op (f := fMulA) (e_lst (a_cons (e_c (d := .int 0)) a_nil) (le_of rfl)) (e_cb (a_cons (e_v (i := 1) (d := .lst (cntD m ((grow (AdOf s) m).map nr))) rfl) a_nil) (len_lst _)) (o := .lst (List.replicate (m + 1) (.int 0))) (by
      show fMulA (.lst [.int 0]) (.int ((cntD m ((grow (AdOf s) m).map nr)).length : Int)) = _
      rw [ln, rep_lst _ (by omega)])) (le_of rfl) (by decide)
    have e : D.lst (List.replicate (m + 1) (.int 0)) = iL (List.replicate (m + 1) 0) := by simp [iL]
    have t : RunS _ _ _ _ ([some (.val (rivD m (gr s))), some (.val (.lst (cntD m ((grow (AdOf s) m).map nr)))), some (.val (.lst (List.replicate (m + 1) (.int 0)))), none, none, none, none, none, none, none]) := this
    rw [e] at t
    exact t
  · have fm : RunE (mFld [5] "many" (mVar 0)) [some (.val (rivD m (gr s))), some (.val (.lst (cntD m ((grow (AdOf s) m).map nr)))), some (.val (iL (List.replicate (m + 1) 0))), none, none, none, none, none, none, none] (.val (.int m)) := fld_many m (gr s) (e_v rfl) rfl
    have := s_set (i := 3) (p := []) (e_op (f := fAddA) (e_lst (a_cons (e_c (d := .int 1)) a_nil) (le_of rfl)) (e_op (f := fMulA) (e_lst (a_cons (e_c (d := .int 0)) a_nil) (le_of rfl)) fm (o := .lst (List.replicate m (.int 0))) (rep_lst _ (by omega))) (add_lst (xs := [.int 1]) (ys := List.replicate m (.int 0)) (by
      rw [List.length_replicate]
      show 1 + m ≤ 100000
      omega))) (le_of rfl) (by decide)
    have e : D.lst ([.int 1] ++ List.replicate m (.int 0)) = iL (1 :: List.replicate m 0) := by simp [iL]
    have t : RunS _ _ _ _ ([some (.val (rivD m (gr s))), some (.val (.lst (cntD m ((grow (AdOf s) m).map nr)))), some (.val (iL (List.replicate (m + 1) 0))), some (.val (.lst ([.int 1] ++ List.replicate m (.int 0)))), none, none, none, none, none, none]) := this
    rw [e] at t
    exact t
end VM

end
section
open PySem PySem.Spec VL L2
namespace VL
section
variable {ρ ρ1 ρ2 ρ3 ρ4 : Rho} {a b : M} {x y o o' : O} {i : Nat} {p : List Nat} {d d1 d2 : D} {mi : MI} {q : Pat} {s : MS}
theorem e_opL {f : D → D → Option O} (hi : look ρ i = some d) (h2 : RunE b ρ y) (h : f d y.frz = some o) : RunE (mOpL f i b) ρ o := by
  unfold RunE mOpL
  rw [hi, h2]
  simp only [Option.bind, bnd, hi, h]
  rfl
theorem s_app {ds : List D} (hi : ρ[i]? = some (some (.lst ds))) (h1 : RunE a ρ o) (hl : ds.length < 100000) : RunS (sDrop (mApp i a)) p ρ .nx (ρ.set i (some (.lst (ds ++ [o.frz])))) := by
  unfold RunS sDrop mApp
  rw [hi]
  simp only [h1, bnd, hi, if_pos hl]
theorem s_aput (hv : RunE b ρ o) (hk : RunE a ρ x) (hi : ρ[i]? = some (some y)) (hl : look ρ i = some d) (h : dputO y x.frz o.frz = some o') : RunS (sAPutM i a b) p ρ .nx (ρ.set i (some o')) := by
  unfold RunS sAPutM
  rw [hv]
  simp only [bnd, hl, Option.bind, hk, hi, h]
  rfl
theorem s_for2 (hi : RunI mi ρ [d1, d2]) (h1 : bindP p q d1 ρ = some ρ1) (h2 : RunS s p ρ1 .nx ρ2) (h3 : bindP p q d2 ρ2 = some ρ3) (h4 : RunS s p ρ3 .nx ρ4) : RunS (sFor mi q s) p ρ .nx ρ4 := by
  unfold RunS sFor
  rw [hi]
  simp only [Option.bind, forLoop, h1, h2, h3, h4]
theorem lcm_run {α : Type} {vs : List Nat} {mt me : M} {f : α → D} {l : List α} (st : α → Rho) (u : α → Bool) (g : α → D) (hi : mi ρ = some (l.map f, ρ1)) (hc : clean vs ρ1 = true) (hl : l.length ≤ 100000)
    (h : ∀ x ∈ l, bindP [] q (f x) ρ1 = some (st x) ∧ wipeR (st x) vs = ρ1 ∧ RunE mt (st x) (.val (.bl (u x))) ∧ (u x = true → ∃ o, RunE me (st x) o ∧ o.frz = g x)) : mLc mi vs q mt me ρ = some (.ok (.lst ((l.filter u).map g)), ρ1) := by
  rw [mLc_run hi hc (by rw [List.length_map]; exact hl), lcLoop_m st u g l [] h]
  rfl
end
end VL
namespace VM
open VG
theorem frz_lst (ds : List D) : (O.lst ds).frz = .lst ds := rfl
def tupN (p : Nat × Nat) : D := .tup [nI p.1, nI p.2]
theorem tupN_toI (s : List (Nat × Nat)) : (gr s).map tupP = s.map tupN := by
  unfold gr
  rw [List.map_map]
  rfl
/-! ### keys -/
def nkP (p : Nat × Nat) : NestedKey := .tup [.num p.1, .num p.2]
theorem nkP_inj {p q : Nat × Nat} (h : nkP p = nkP q) : p = q := by
  unfold nkP at h
  injection h with h
  injection h with h1 h2
  injection h2 with h2 _
  injection h1 with h1
  injection h2 with h2
  exact Prod.ext (by omega) (by omega)
def kdsP (K : List (Nat × Nat)) : List (NestedKey × D) := K.map fun p => (nkP p, .int 1)
def foundO (K : List (Nat × Nat)) : O := if K = [] then .dic [] else .dcn (kdsP K)
def insP (K : List (Nat × Nat)) (p : Nat × Nat) : List (Nat × Nat) := if p ∈ K then K else K ++ [p]
theorem getN_kds (K : List (Nat × Nat)) (p : Nat × Nat) : (getN (kdsP K) (nkP p)).isSome = decide (p ∈ K) := by
  unfold getN kdsP
  rw [Option.isSome_map, Bool.eq_iff_iff, List.find?_isSome, decide_eq_true_eq]
  constructor
  · rintro ⟨x, hx, e⟩
    obtain ⟨q, hq, rfl⟩ := List.mem_map.mp hx
    have := nkP_inj (of_decide_eq_true e)
    exact this ▸ hq
  · intro h
    exact ⟨_, List.mem_map.mpr ⟨p, h, rfl⟩, by simp⟩
theorem putN_kds (K : List (Nat × Nat)) (p : Nat × Nat) : putN (kdsP K) (nkP p) (.int 1) = kdsP (insP K p) := by
  unfold putN insP
  rw [getN_kds]
  by_cases h : p ∈ K
  · rw [if_pos (by simp [h]), if_pos h]
    unfold kdsP
    rw [List.map_map]
    refine List.map_congr_left fun q _ => ?_
    show (if nkP q = nkP p then (nkP q, D.int 1) else (nkP q, D.int 1)) = _
    split <;> rfl
  · rw [if_neg (by simp [h]), if_neg h]
    unfold kdsP
    rw [List.map_append]
    rfl
theorem nkT_P (p : Nat × Nat) : nkT (tupN p) = some (nkP p) := by rfl
theorem dput_P (K : List (Nat × Nat)) (p : Nat × Nat) (hl : K.length ≤ 1000) : dputO (foundO K) (tupN p) (.int 1) = some (foundO (insP K p)) := by
  have ne : insP K p ≠ [] := by
    unfold insP
    split
    · rename_i h
      rintro rfl
      cases h
    · simp
  by_cases h : K = []
  · subst h
    rfl
  · have lk : (kdsP K).length < 100000 := by
      unfold kdsP
      rw [List.length_map]
      omega
    have e1 : foundO K = .dcn (kdsP K) := if_neg h
    have e2 : foundO (insP K p) = .dcn (kdsP (insP K p)) := if_neg ne
    rw [e1, e2]
    show (nkT (tupN p)).bind (fun k => if (kdsP K).length < 100000 then some (O.dcn (putN (kdsP K) k (.int 1))) else none) = _
    rw [nkT_P]
    simp only [Option.bind, if_pos lk, putN_kds]
theorem insP_mem {K : List (Nat × Nat)} {p q : Nat × Nat} : q ∈ insP K p ↔ q ∈ K ∨ q = p := by
  unfold insP
  split
  · rename_i h
    constructor
    · exact .inl
    · rintro (h1 | h1)
      · exact h1
      · exact h1 ▸ h
  · simp
theorem insP_nodup {K : List (Nat × Nat)} {p : Nat × Nat} (h : K.Nodup) : (insP K p).Nodup := by
  unfold insP
  split
  · exact h
  · rename_i n
    rw [List.nodup_append]
    exact ⟨h, by simp, fun a ha b hb e => n (by rw [List.mem_singleton] at hb; exact hb ▸ e ▸ ha)⟩
theorem insP_len (K : List (Nat × Nat)) (p : Nat × Nat) : (insP K p).length ≤ K.length + 1 := by
  unfold insP
  split <;> simp
/-! ### the pairs sorted -/
theorem pins_map {α β : Type} (lt : β → β → Bool) (f : α → β) (y : α) : ∀ l : List α, pins lt (f y) (l.map f) = (pins (fun a b => lt (f a) (f b)) y l).map f
  | [] => rfl
  | x :: r => by
    simp only [List.map_cons, pins]
    split
    · rfl
    · rw [pins_map lt f y r]
      rfl
theorem psort_go_map {α β : Type} (lt : β → β → Bool) (f : α → β) : ∀ (l acc : List α), (l.map f).foldl (fun acc y => pins lt y acc) (acc.map f) = (l.foldl (fun acc y => pins (fun a b => lt (f a) (f b)) y acc) acc).map f
  | [], acc => rfl
  | y :: l, acc => by
    rw [List.map_cons, List.foldl_cons, List.foldl_cons, pins_map, psort_go_map lt f l]
theorem pins_perm {α : Type} (lt : α → α → Bool) (y : α) : ∀ l : List α, (pins lt y l).Perm (y :: l)
  | [] => .refl _
  | x :: r => by
    unfold pins
    split
    · exact .refl _
    · exact ((pins_perm lt y r).cons x).trans (.swap y x r)
theorem psort_perm {α : Type} (lt : α → α → Bool) : ∀ (l acc : List α), (l.foldl (fun acc y => pins lt y acc) acc).Perm (l ++ acc)
  | [], acc => .refl _
  | y :: l, acc => by
    rw [List.foldl_cons]
    exact (psort_perm lt l _).trans (((pins_perm lt y acc).append_left l).trans List.perm_middle)
theorem sorts_P (K : List (Nat × Nat)) : ∃ K' : List (Nat × Nat), fSorts [.lst (K.map tupN)] = some (.lst (K'.map tupN)) ∧ K'.Perm K := by
  cases K with
  | nil => exact ⟨[], rfl, .refl _⟩
  | cons p K =>
    refine ⟨(p :: K).foldl (fun acc y => pins (fun a b => ltD (tupN a) (tupN b)) y acc) [], ?_, by simpa using psort_perm (fun a b => ltD (tupN a) (tupN b)) (p :: K) []⟩
    have al : ((p :: K).map tupN).all (fun d => (pairD d).isSome) = true := by
      rw [List.all_map, List.all_eq_true]
      intro q _
      rfl
    have e0 : fSortI [.lst ((p :: K).map tupN)] = none := rfl
    have e1 : fSortP [.lst ((p :: K).map tupN)] = some (.lst (psort ltD ((p :: K).map tupN))) := if_pos al
    have e2 := psort_go_map ltD tupN (p :: K) []
    simp only [fSorts, fOr1, e0, e1]
    unfold psort
    rw [← e2]
    rfl
/-! ### the run -/
def dEnd : MS := sSeq (sAsgV 8 (mIf (mOp2 fEq (mVar 8) (mVar 3)) (mVar 2) (mVar 8))) (sDrop (mApp 7 (mIf (mAnd (mOp2 fEq (mVar 8) (mOp2 (fInt fun i j => i - j) (mVar 0) (mC (.int (1))))) (mOp2 fNe (mVar 3) (mOp2 (fInt fun i j => i - j) (mVar 0) (mC (.int (1)))))) (mVar 3) (mVar 8))))
def dPut : MS := sAPutM 4 (mTup (aCons (mCB fMin2 (aCons (mOpL fIxA 7 (mC (.int (0)))) (aCons (mOpL fIxA 7 (mC (.int (1)))) aNil))) (aCons (mCB fMax2 (aCons (mOpL fIxA 7 (mC (.int (0)))) (aCons (mOpL fIxA 7 (mC (.int (1)))) aNil))) aNil))) (mC (.int (1)))
def dTurn : MS := sSeq (sAsgO 7 (mLst aNil)) (sSeq (sFor (iWalkA (mTup (aCons (mVar 5) (aCons (mVar 6) aNil)))) (.nm 8) dEnd) dPut)
def dLc : M := mLc (iWalkA (mFz 4)) [9] (.nm 9) (mOp2 fNe (mOp2 fIxA (mVar 9) (mC (.int (0)))) (mOp2 fIxA (mVar 9) (mC (.int (1))))) (mVar 9)
theorem drawn_eq : m_law_drawn_in = mFn0 4 10 (sSeq (sAsgO 4 mDNew) (sSeq (sFor (iWalkA (mVar 1)) (.tu ((.nm 5) :: (.nm 6) :: [])) dTurn) (sRet (mCB fSorts (aCons dLc aNil))))) := rfl
theorem ne_nat (x y : Nat) : fNe (nI x) (nI y) = some (.val (.bl (!decide (x = y)))) := by
  show fNe (.int (x : Int)) (.int (y : Int)) = _
  rw [ne_int]
  have : decide ((x : Int) = (y : Int)) = decide (x = y) := decide_eq_decide.mpr (by omega)
  rw [this]
section
variable {m a b : Nat} {s : List (Nat × Nat)} {f x y z w : Option O} {K : List (Nat × Nat)}
def DR (m : Nat) (s : List (Nat × Nat)) (a b : Nat) (f x y z w : Option O) : Rho := [some (.val (nI m)), some (.val (.lst (s.map tupN))), some (.val (nI a)), some (.val (nI b)), f, x, y, z, w, none]
theorem dEnd_run (hm : 1 ≤ m) (ds : List D) (hl : ds.length ≤ 100) (v : Nat) : RunS dEnd [] (DR m s a b f x y (some (.lst ds)) (some (.val (nI v)))) .nx (DR m s a b f x y (some (.lst (ds ++ [nI (rho m a b v)]))) (some (.val (nI (if v = b then a else v))))) := by
  have e1 : RunE (mIf (mOp2 fEq (mVar 8) (mVar 3)) (mVar 2) (mVar 8)) (DR m s a b f x y (some (.lst ds)) (some (.val (nI v)))) (.val (nI (if v = b then a else v))) := by
    refine e_if (u := v == b) (e_op (e_v rfl) (e_v rfl) (eq_nat _ _)) (fun h => ?_) (fun h => ?_)
    · rw [if_pos (beq_iff_eq.mp h)]
      exact e_v rfl
    · rw [if_neg (beq_eq_false_iff_ne.mp h)]
      exact e_v rfl
  have s1 := s_set (i := 8) (p := []) e1 (le_of rfl) (by decide)
  have last : ∀ u : Nat, RunE (mOp2 (fInt fun i j => i - j) (mVar 0) (mC (.int (1)))) (DR m s a b f x y (some (.lst ds)) (some (.val (nI u)))) (.val (nI (m - 1))) := fun u => by
    have := e_op (f := fInt fun i j => i - j) (e_v (i := 0) (ρ := DR m s a b f x y (some (.lst ds)) (some (.val (nI u)))) (d := nI m) rfl) (e_c (d := .int 1)) (o := .val (.int ((m : Int) - 1))) rfl
    have e : (m : Int) - 1 = ((m - 1 : Nat) : Int) := by omega
    rw [e] at this
    exact this
  have e2 : RunE (mIf (mAnd (mOp2 fEq (mVar 8) (mOp2 (fInt fun i j => i - j) (mVar 0) (mC (.int (1))))) (mOp2 fNe (mVar 3) (mOp2 (fInt fun i j => i - j) (mVar 0) (mC (.int (1)))))) (mVar 3) (mVar 8)) (DR m s a b f x y (some (.lst ds)) (some (.val (nI (if v = b then a else v))))) (.val (nI (rho m a b v))) := by
    refine e_if (e_and (u := (if v = b then a else v) == m - 1) (v := !decide (b = m - 1)) (e_op (e_v rfl) (last _) (eq_nat _ _)) (fun _ => e_op (e_v rfl) (last _) (ne_nat _ _))) (fun h => ?_) (fun h => ?_)
    · have h : (if v = b then a else v) = m - 1 ∧ b ≠ m - 1 := by simpa using h
      have e : rho m a b v = b := by
        unfold rho
        rw [if_pos h]
      rw [e]
      exact e_v rfl
    · have h : ¬ ((if v = b then a else v) = m - 1 ∧ b ≠ m - 1) := by simpa using h
      have e : rho m a b v = if v = b then a else v := by
        unfold rho
        rw [if_neg h]
      rw [e]
      exact e_v rfl
  exact s_seq s1 (s_app rfl e2 (by omega))
theorem foundO_look (K : List (Nat × Nat)) (ρ : Rho) (h : ρ[4]? = some (some (foundO K))) : ∃ d, look ρ 4 = some d := by
  unfold look
  rw [h]
  by_cases c : K = []
  · rw [show foundO K = .dic [] from if_pos c]
    exact ⟨_, rfl⟩
  · rw [show foundO K = .dcn (kdsP K) from if_neg c]
    exact ⟨_, rfl⟩
theorem dPut_run (u v : Nat) (hl : K.length ≤ 1000) : RunS dPut [] (DR m s a b (some (foundO K)) x y (some (.lst [nI u, nI v])) w) .nx (DR m s a b (some (foundO (insP K (min u v, max u v)))) x y (some (.lst [nI u, nI v])) w) := by
  have e0 : RunE (mOpL fIxA 7 (mC (.int (0)))) (DR m s a b (some (foundO K)) x y (some (.lst [nI u, nI v])) w) (.val (nI u)) := e_opL (d := .lst [nI u, nI v]) rfl e_c rfl
  have e1 : RunE (mOpL fIxA 7 (mC (.int (1)))) (DR m s a b (some (foundO K)) x y (some (.lst [nI u, nI v])) w) (.val (nI v)) := e_opL (d := .lst [nI u, nI v]) rfl e_c rfl
  have mn : fMin2 [nI u, nI v] = some (.val (nI (min u v))) := by
    show fMin2 [.int (u : Int), .int (v : Int)] = _
    rw [min2]
    have : min (u : Int) (v : Int) = ((min u v : Nat) : Int) := by omega
    rw [this]
    rfl
  have mx : fMax2 [nI u, nI v] = some (.val (nI (max u v))) := by
    show fMax2 [.int (u : Int), .int (v : Int)] = _
    rw [max2]
    have : max (u : Int) (v : Int) = ((max u v : Nat) : Int) := by omega
    rw [this]
    rfl
  have k := e_tup (a_cons (e_cb (a_cons e0 (a_cons e1 a_nil)) mn) (a_cons (e_cb (a_cons e0 (a_cons e1 a_nil)) mx) a_nil)) (le_of rfl)
  obtain ⟨d, hd⟩ := foundO_look K (DR m s a b (some (foundO K)) x y (some (.lst [nI u, nI v])) w) rfl
  exact s_aput (e_c (d := .int 1)) k rfl hd (dput_P K (min u v, max u v) hl)
theorem dTurn_run (hm : 1 ≤ m) (u v : Nat) (hl : K.length ≤ 1000) : ∃ z' w', RunS dTurn [] (DR m s a b (some (foundO K)) (some (.val (nI u))) (some (.val (nI v))) z w) .nx (DR m s a b (some (foundO (insP K (min (rho m a b u) (rho m a b v), max (rho m a b u) (rho m a b v))))) (some (.val (nI u))) (some (.val (nI v))) z' w') := by
  refine ⟨_, _, s_seq (s_setO (e_lst a_nil (le_of rfl)) (le_of rfl) (by decide)) (s_seq (s_for2 (d1 := nI u) (d2 := nI v) (ρ1 := DR m s a b (some (foundO K)) (some (.val (nI u))) (some (.val (nI v))) (some (.lst [])) (some (.val (nI u)))) (i_wlk (e_tup (a_cons (e_v rfl) (a_cons (e_v rfl) a_nil)) (le_of rfl)) rfl) rfl (dEnd_run hm [] (by decide) u) rfl (dEnd_run hm [nI (rho m a b u)] (le_of rfl) v)) (dPut_run (rho m a b u) (rho m a b v) hl))⟩
end
theorem drawn_run (m : Nat) (s : List (Nat × Nat)) (a b : Nat) (hm : 1 ≤ m) (hl : s.length ≤ 900) : ∃ s' : List (Nat × Nat), m_law_drawn_in ([nI m, .lst (s.map tupN), nI a, nI b].map .val) = some (.ok (.lst (s'.map tupN)), [nI m, .lst (s.map tupN), nI a, nI b].map .val) ∧ s'.Nodup ∧ s'.length ≤ s.length ∧
    ∀ p, p ∈ s' ↔ (∃ q ∈ s, p = (min (rho m a b q.1) (rho m a b q.2), max (rho m a b q.1) (rho m a b q.2))) ∧ p.1 ≠ p.2 := by
  obtain ⟨ρ', l1, K, x, y, z, w, k1, k2, k3, l2⟩ := s_form (s := dTurn) (q := .tu ((.nm 5) :: (.nm 6) :: [])) (p := []) (f := tupN) (l := s) (mi := iWalkA (mVar 1)) (ρ := DR m s a b (some (foundO [])) none none none none)
    (fun j ρ => ∃ K x y z w, K.Nodup ∧ K.length ≤ j ∧ (∀ p, p ∈ K ↔ ∃ q ∈ s.take j, p = (min (rho m a b q.1) (rho m a b q.2), max (rho m a b q.1) (rho m a b q.2))) ∧ ρ = DR m s a b (some (foundO K)) x y z w)
    (i_wlk (e_v rfl) rfl) ⟨[], none, none, none, none, List.nodup_nil, Nat.le_refl _, by simp, rfl⟩ (fun j q ρ hq ⟨K, x, y, z, w, k1, k2, k3, hy⟩ => by
      subst hy
      have hj : j < s.length := (List.getElem?_eq_some_iff.mp hq).1
      obtain ⟨z', w', r⟩ := dTurn_run (m := m) (a := a) (b := b) (s := s) (K := K) (z := z) (w := w) hm q.1 q.2 (by omega)
      refine ⟨DR m s a b (some (foundO K)) (some (.val (nI q.1))) (some (.val (nI q.2))) z w, _, rfl, r, _, _, _, _, _, insP_nodup k1, Nat.le_trans (insP_len _ _) (by omega), fun p => ?_, rfl⟩
      rw [insP_mem, k3, take_snoc hq]
      constructor
      · rintro (⟨q', h1, h2⟩ | h)
        · exact ⟨q', List.mem_append_left _ h1, h2⟩
        · exact ⟨q, by simp, h⟩
      · rintro ⟨q', h1, h2⟩
        rcases List.mem_append.mp h1 with h1 | h1
        · exact .inl ⟨q', h1, h2⟩
        · rw [List.mem_singleton.mp h1] at h2
          exact .inr h2)
  subst l2
  rw [List.take_length] at k3
  obtain ⟨K', e1, e2⟩ := sorts_P (K.filter fun p => !decide (p.1 = p.2))
  refine ⟨K', ?_, ?_, ?_, fun p => ?_⟩
  · have wk : iWalkA (mFz 4) (DR m s a b (some (foundO K)) x y z w) = some (K.map tupN, DR m s a b (some (.val (foundO K).frz)) x y z w) := by
      have e : ∀ l : List (Nat × Nat), ((kdsP l).map fun p => (nkD p.1, p.2)).map (·.1) = l.map tupN := fun l => by
        unfold kdsP
        rw [List.map_map, List.map_map]
        rfl
      by_cases c : K = []
      · subst c
        rfl
      · have f0 : foundO K = .dcn (kdsP K) := if_neg c
        rw [f0, ← e K]
        rfl
    have lc := lcm_run (mi := iWalkA (mFz 4)) (vs := [9]) (q := .nm 9) (mt := mOp2 fNe (mOp2 fIxA (mVar 9) (mC (.int (0)))) (mOp2 fIxA (mVar 9) (mC (.int (1))))) (me := mVar 9) (fun p => [some (.val (nI m)), some (.val (.lst (s.map tupN))), some (.val (nI a)), some (.val (nI b)), some (.val (foundO K).frz), x, y, z, w, some (.val (tupN p))]) (fun p => !decide (p.1 = p.2)) tupN wk rfl (by omega) fun p _ => ⟨rfl, rfl, e_op (e_op (e_v (d := tupN p) rfl) e_c (o := .val (nI p.1)) rfl) (e_op (e_v (d := tupN p) rfl) e_c (o := .val (nI p.2)) rfl) (ne_nat _ _), fun _ => ⟨_, e_v rfl, rfl⟩⟩
    have rt : RunS (sRet (mCB fSorts (aCons dLc aNil))) [] (DR m s a b (some (foundO K)) x y z w) (.ret (.lst (K'.map tupN))) (DR m s a b (some (.val (foundO K).frz)) x y z w) := by
      unfold RunS sRet mCB dLc
      simp only [aCons, aNil, bnd, lc, dsOf, Option.bind, Option.map, frz_lst, e1]
    rw [drawn_eq]
    exact f_ret rfl (le_of rfl) (s_seq (s_setO rfl (le_of rfl) (by decide)) (s_seq l1 rt)) (le_of rfl)
  · exact e2.nodup_iff.mpr (k1.filter _)
  · rw [e2.length_eq]
    exact Nat.le_trans (List.length_filter_le _ _) k2
  · rw [e2.mem_iff, List.mem_filter, k3]
    simp
end VM

end
section
open PySem PySem.Spec VL L2
namespace VM
open VG
theorem eq_nil (s : List (Nat × Nat)) : fEq (.lst (s.map tupN)) (.lst []) = some (.val (.bl (decide (s = [])))) := by
  rw [← tupN_toI]
  have e1 : ∀ t : List (Int × Int), toPy (.lst (t.map tupP)) = some (.list (t.map pyP)) := fun t => by
    unfold toPy
    rw [toPys_P]
    rfl
  have e2 : PyData.eqv (.list ((gr s).map pyP)) (.list (([] : List (Int × Int)).map pyP)) = decide (gr s = []) := by
    unfold PyData.eqv
    exact eqvAll_P _ _
  have e3 : decide (gr s = []) = decide (s = []) := decide_eq_decide.mpr (by unfold gr; simp)
  have := e1 []
  simp only [List.map_nil] at this e2
  have sh := (shaped_Ps []).1
  simp only [List.map_nil] at sh
  simp only [fEq, e1, this, Option.bind, (shaped_Ps (gr s)).1, sh, Bool.and_self, if_true, e2, e3]
theorem ix_last (ds : List D) (x : D) : fIxA (.lst (ds ++ [x])) (.int (-1)) = some (.val x) := by
  have e : ixN (ds ++ [x]).length (-1) = some ds.length := by
    unfold ixN
    rw [List.length_append, List.length_singleton, if_neg (by omega), if_pos (by omega)]
    congr 1
    omega
  have : atI (ds ++ [x]) (-1) = some x := by
    unfold atI
    rw [e]
    simp
  show (fOr _ _ (.lst (ds ++ [x])) (.int (-1))) = _
  simp [fOr, fIx, this]
theorem cut_last (ds : List D) (x : D) : VL.cutD (ds ++ [x]) none (some (-1)) = ds := by
  unfold VL.cutD
  have e1 : HT.sIx (ds ++ [x]).length 0 none = 0 := rfl
  have e2 : HT.sIx (ds ++ [x]).length (ds ++ [x]).length (some (-1)) = ds.length := by
    show (if (-1 : Int) < 0 then ((-1 : Int) + ((ds ++ [x]).length : Int)).toNat else min (-1 : Int).toNat (ds ++ [x]).length) = ds.length
    rw [if_pos (by decide), List.length_append, List.length_singleton]
    omega
  rw [e1, e2]
  simp
def rBut : M := mSl (mVar 1) oNone (oPart (mUn fNeg (mC (.int (1)))))
def rLess : M := mLc (iEnu (aCons (mVar 4) aNil)) [6, 7] (.tu ((.nm 6) :: (.nm 7) :: [])) mYes (mOp2 (fInt fun i j => i - j) (mVar 7) (mIf (mOp2 (fOr (fCmp fun i j => decide (i < j)) fLtT) (mVar 6) (mCB (fOr1 fLen fLenD) (aCons (mVar 5) aNil))) (mOp2 fIxA (mVar 5) (mVar 6)) (mC (.int (0)))))
def rTwo (fn : Fn) : M := mTup (aCons (mCall fn (aCons (mVar 0) (aCons rBut aNil))) (aCons (mCall fn (aCons (mOp2 (fInt fun i j => i - j) (mVar 0) (mC (.int (1)))) (aCons (mCall m_law_drawn_in (aCons (mVar 0) (aCons rBut (aCons (mVar 2) (aCons (mVar 3) aNil))))) aNil))) aNil))
theorem rowB_eq (fn : Fn) : m_law_rowB fn = mFn0 2 8 (sSeq (sIf (mOp2 fEq (mVar 1) (mLst aNil)) (sRet (mOp2 fAddA (mOp2 fMulA (mLst (aCons (mC (.int (0))) aNil)) (mVar 0)) (mLst (aCons (mC (.int (1))) aNil)))) sNx) (sSeq (sAsgP (.tu ((.nm 2) :: (.nm 3) :: [])) (mOp2 fIxA (mVar 1) (mUn fNeg (mC (.int (1)))))) (sSeq (sAsgP (.tu ((.nm 4) :: (.nm 5) :: [])) (rTwo fn)) (sRet rLess)))) := rfl
structure RowAt (m : Nat) (s : List (Nat × Nat)) (fn : Fn) : Prop where
  ex : ∃ (o : O) (row : List Int), fn ([nI m, .lst (s.map tupN)].map .val) = some (.ok o, [nI m, .lst (s.map tupN)].map .val) ∧ o.frz = iL row ∧ row.length = m + 1 ∧ ∀ L : Nat, evP row (L : Int) = W s L m
section
variable {m : Nat} {s : List (Nat × Nat)} {a b : Nat}
def WR (m : Nat) (s : List (Nat × Nat)) (x y z w u v : Option O) : Rho := [some (.val (nI m)), some (.val (.lst (s.map tupN))), x, y, z, w, u, v]
theorem rBut_run {ρ : Rho} (h : ρ[1]? = some (some (.val (.lst ((s ++ [(a, b)]).map tupN))))) : RunE rBut ρ (.lst (s.map tupN)) := by
  refine e_sl (e_v h) o_none (o_part (e_un (e_c (d := .int 1)) (o := .val (.int (-1))) rfl) rfl) ?_
  show some (O.lst (VL.cutD ((s ++ [(a, b)]).map tupN) none (some (-1)))) = _
  rw [List.map_append, List.map_cons, List.map_nil, cut_last]
def lessL (l k : List Int) : List Int := (List.range l.length).map fun i => l.getD i 0 - k.getD i 0
theorem rLess_run {x y : Option O} {l k : List Int} (hl : l.length ≤ 1000) : RunE rLess (WR m s x y (some (.val (iL l))) (some (.val (iL k))) none none) (.lst ((lessL l k).map .int)) := by
  have e : (lessL l k).map D.int = (List.range l.length).map fun i => D.int (l.getD i 0 - k.getD i 0) := by
    unfold lessL
    rw [List.map_map]
    rfl
  rw [e]
  refine e_lcma (f := fun i => D.tup [nI i, .int (l.getD i 0)]) (l := List.range l.length) (fun i => WR m s x y (some (.val (iL l))) (some (.val (iL k))) (some (.val (nI i))) (some (.val (.int (l.getD i 0))))) (fun i => .int (l.getD i 0 - k.getD i 0)) (by
    have := i_enu (ms := aCons (mVar 4) aNil) (ρ := WR m s x y (some (.val (iL l))) (some (.val (iL k))) none none) (a_cons (e_v rfl) a_nil) (v := iL l) rfl
    rw [enum_eq, List.length_map] at this
    have e : ((List.range l.length).map fun i => D.tup [nI i, (l.map D.int).getD i .non]) = (List.range l.length).map fun i => D.tup [nI i, .int (l.getD i 0)] := List.map_congr_left fun i hi => by
      have hi := List.mem_range.mp hi
      simp [List.getD_eq_getElem?_getD, hi]
    rw [e] at this
    exact this) rfl (by simp; omega) fun i hi => ⟨rfl, rfl, _, e_op (f := fInt fun i j => i - j) (x := .val (.int (l.getD i 0))) (e_v rfl) (e_if (o := .val (.int (k.getD i 0))) (u := decide (i < k.length)) (e_op (e_v (d := nI i) rfl) (e_cb (a_cons (e_v (d := iL k) rfl) a_nil) (o := .val (nI k.length)) (by
      show fOr1 fLen fLenD [.lst (k.map .int)] = _
      rw [len_lst, List.length_map]
      rfl)) (lt_nat _ _)) (fun h => ?_) (fun h => ?_)) rfl, rfl⟩
  · have h := of_decide_eq_true h
    exact e_op (e_v (d := iL k) rfl) (e_v (d := nI i) rfl) (ix_lst (by simp [List.getD_eq_getElem?_getD, h]))
  · have h := of_decide_eq_false h
    have : k.getD i 0 = 0 := by
      rw [List.getD_eq_getElem?_getD, List.getElem?_eq_none (by omega)]
      rfl
    rw [this]
    exact e_c
end
theorem row_run : ∀ (n m : Nat) (s : List (Nat × Nat)), s.length < n → m ≤ 900 → (∀ p ∈ s, p.1 < p.2 ∧ p.2 < m) → s.Nodup → s.length ≤ 900 → RowAt m s (m_law_rowR n)
  | 0, _, _, h, _, _, _, _ => absurd h (Nat.not_lt_zero _)
  | n + 1, m, s, h, hm, g, nd, hl => by
    by_cases c : s = []
    · subst c
      refine ⟨.lst ((List.replicate m (0 : Int) ++ [1]).map .int), List.replicate m (0 : Int) ++ [1], ?_, rfl, by simp, fun L => ?_⟩
      · show m_law_rowB (m_law_rowR n) _ = _
        rw [rowB_eq]
        refine f_ret rfl (le_of rfl) (s_seqR (s_ifT (e_op (x := .val (.lst [])) (e_v rfl) (e_lst a_nil (le_of rfl)) (eq_nil [])) (s_ret ?_))) (le_of rfl)
        have := e_op (f := fAddA) (e_op (f := fMulA) (e_lst (a_cons (e_c (d := .int 0)) a_nil) (le_of rfl)) (e_v (i := 0) (ρ := [nI m, .lst (([] : List (Nat × Nat)).map tupN)].map (fun d => some (.val d)) ++ List.replicate (8 - 2) none) (d := nI m) rfl) (rep_lst (.int 0) (n := m) (by omega))) (e_lst (a_cons (e_c (d := .int 1)) a_nil) (le_of rfl)) (add_lst (xs := List.replicate m (.int 0)) (ys := [.int 1]) (by
          rw [List.length_replicate]
          show m + 1 ≤ 100000
          omega))
        have e : (List.replicate m (0 : Int) ++ [1]).map D.int = List.replicate m (.int 0) ++ [.int 1] := by simp
        rw [e]
        exact this
      · rw [evP_pow]
        unfold W
        rw [try_free]
    · obtain ⟨t, ⟨a, b⟩, rfl⟩ : ∃ t p, s = t ++ [p] := ⟨_, _, (List.dropLast_concat_getLast c).symm⟩
      rw [List.length_append, List.length_singleton] at h hl
      obtain ⟨hab, hb⟩ := g (a, b) (by simp)
      have hab : a < b := hab
      have hb : b < m := hb
      have gt : ∀ p ∈ t, p.1 < p.2 ∧ p.2 < m := fun p hp => g p (List.mem_append_left _ hp)
      obtain ⟨ndt, _, no⟩ := List.nodup_append.mp nd
      have no : (a, b) ∉ t := fun hp => no _ hp (a, b) (by simp) rfl
      obtain ⟨o1, r1, f1, z1, l1, e1⟩ := (row_run n m t (by omega) hm gt ndt (by omega)).ex
      obtain ⟨t', f2, nd', lt', mem'⟩ := drawn_run m t a b (by omega) (by omega)
      have g' : ∀ p ∈ t', p.1 < p.2 ∧ p.2 < m - 1 := fun p hp => by
        obtain ⟨⟨q, hq, e⟩, ne⟩ := (mem' p).mp hp
        have b1 := gt q hq
        have x1 := rho_lt hab hb (show q.1 < m by omega)
        have x2 := rho_lt hab hb b1.2
        rw [e] at ne ⊢
        simp only at ne ⊢
        omega
      have hs : ∀ p, p ∈ t' ↔ ∃ q ∈ t, p = (min (rho m a b q.1) (rho m a b q.2), max (rho m a b q.1) (rho m a b q.2)) := fun p => by
        rw [mem']
        constructor
        · exact fun z => z.1
        · rintro ⟨q, hq, e⟩
          refine ⟨⟨q, hq, e⟩, ?_⟩
          have b1 := gt q hq
          have ne := rho_ne hab hb b1.1 b1.2 (fun z => no (by
            have : q = (a, b) := z
            exact this ▸ hq))
          rw [e]
          simp only
          omega
      obtain ⟨o2, r2, f3, z2, l2, e2⟩ := (row_run n (m - 1) t' (by omega) (by omega) g' nd' (by omega)).ex
      refine ⟨.lst ((lessL r1 r2).map .int), lessL r1 r2, ?_, rfl, by simp [lessL, l1], fun L => ?_⟩
      · show m_law_rowB (m_law_rowR n) _ = _
        rw [rowB_eq]
        have two : RunE (rTwo (m_law_rowR n)) (WR m (t ++ [(a, b)]) (some (.val (nI a))) (some (.val (nI b))) none none none none) (.val (.tup [iL r1, iL r2])) := by
          have bt := rBut_run (s := t) (a := a) (b := b) (ρ := WR m (t ++ [(a, b)]) (some (.val (nI a))) (some (.val (nI b))) none none none none) rfl
          have v0 := e_v (i := 0) (ρ := WR m (t ++ [(a, b)]) (some (.val (nI a))) (some (.val (nI b))) none none none none) (d := nI m) rfl
          have mi : RunE (mOp2 (fInt fun i j => i - j) (mVar 0) (mC (.int (1)))) (WR m (t ++ [(a, b)]) (some (.val (nI a))) (some (.val (nI b))) none none none none) (.val (nI (m - 1))) := by
            have := e_op (f := fInt fun i j => i - j) v0 (e_c (d := .int 1)) (o := .val (.int ((m : Int) - 1))) rfl
            have e : (m : Int) - 1 = ((m - 1 : Nat) : Int) := by omega
            rw [e] at this
            exact this
          have dr := e_call (fn := m_law_drawn_in) (a_cons v0 (a_cons bt (a_cons (e_v (i := 2) (d := nI a) rfl) (a_cons (e_v (i := 3) (d := nI b) rfl) a_nil)))) f2
          have := e_tup (a_cons (e_call (a_cons v0 (a_cons bt a_nil)) f1) (a_cons (e_call (a_cons mi (a_cons dr a_nil)) f3) a_nil)) (le_of rfl)
          rw [z1, z2] at this
          exact this
        refine f_ret rfl (le_of rfl) (s_seq (s_ifF (e_op (x := .val (.lst ((t ++ [(a, b)]).map tupN))) (e_v rfl) (e_lst a_nil (le_of rfl)) ?_) s_nx) (s_seq (ρ1 := WR m (t ++ [(a, b)]) (some (.val (nI a))) (some (.val (nI b))) none none none none) (s_pat (o := .val (tupN (a, b))) (e_op (x := .val (.lst ((t ++ [(a, b)]).map tupN))) (e_v rfl) (e_un (e_c (d := .int 1)) (o := .val (.int (-1))) rfl) ?_) rfl) (s_seq (ρ1 := WR m (t ++ [(a, b)]) (some (.val (nI a))) (some (.val (nI b))) (some (.val (iL r1))) (some (.val (iL r2))) none none) (s_pat two rfl) (s_ret (rLess_run (by omega)))))) (le_of rfl)
        · have := eq_nil (t ++ [(a, b)])
          rw [show decide (t ++ [(a, b)] = []) = false by simp] at this
          exact this
        · show fIxA (.lst ((t ++ [(a, b)]).map tupN)) (.int (-1)) = _
          rw [List.map_append, List.map_cons, List.map_nil, ix_last]
      · have d := drawn t t' L m a b hab hb gt no g' hs
        rw [evP_less r1 r2 (lessL r1 r2) L (by omega) (by simp [lessL]) (fun i hi => by simp [lessL, List.getD_eq_getElem?_getD, hi]), e1, e2]
        omega
end VM

end
section
open PySem PySem.Spec VL L2
namespace VL
section
variable {ρ : Rho} {a b : M} {ms : MA} {x y : O} {i j : Nat} {d1 d2 : D}
theorem e_cnt {ds : List D} {ns : List Int} {k : Int} (h1 : RunE a ρ x) (e1 : x.frz = .lst ds) (hn : intsD ds = some ns) (h2 : RunE b ρ y) (e2 : y.frz = .int k) : RunE (mCnt a b) ρ (.val (.int (ns.count k : Nat))) := by
  unfold RunE mCnt
  rw [h1]
  simp only [bnd, e1, h2, hn, e2]
theorem s_par (h : RunA ms ρ [d1, d2]) (hi : i < ρ.length) (hj : j < ρ.length) : RunS (sPar i j ms) [] ρ .nx ((ρ.set i (some (.val d1))).set j (some (.val d2))) := by
  unfold RunS sPar
  rw [h]
  simp [bnd, setV, hi, hj, dsOnly]
end
end VL
namespace VM
open VG
theorem count_cast (x : Nat) : ∀ l : List Nat, (l.map fun (n : Nat) => (n : Int)).count (x : Int) = l.count x
  | [] => rfl
  | y :: l => by
    rw [List.map_cons, List.count_cons, List.count_cons, count_cast x l]
    by_cases h : y = x
    · subst h
      simp
    · have : ¬ (y : Int) = (x : Int) := by omega
      simp [h, this]
theorem evP_snoc : ∀ (l : List Int) (a x : Int), evP (l ++ [a]) x = evP l x + a * x ^ l.length
  | [], a, x => by simp [evP]
  | b :: l, a, x => by
    show b + x * evP (l ++ [a]) x = b + x * evP l x + a * x ^ (l.length + 1)
    rw [evP_snoc l a x, Int.mul_add, Int.pow_succ, Int.mul_comm (x ^ l.length) x, ← Int.mul_assoc a, Int.mul_comm a x, Int.mul_assoc x a]
    omega
/-- the drawn pairs, in nats -/
theorem natS {m : Nat} {S : List (Int × Int)} (h1 : 1 ≤ m) (h6 : m ≤ 6) (hs : S.Sublist (every m)) : ∃ s : List (Nat × Nat), S = gr s ∧ OkG m s ∧ (∀ p ∈ s, p.1 < p.2 ∧ p.2 < m) ∧ s.Nodup ∧ s.length ≤ 15 := by
  have g := (every_good h1 (by omega : m ≤ 8)).sub hs
  have e15 : (every m).length ≤ 15 := by
    rcases small h1 (by omega) with rfl | rfl | rfl | rfl | rfl | rfl | rfl | rfl <;> first | decide +kernel | omega
  have e : S = gr (S.map fun p => (p.1.toNat, p.2.toNat)) := by
    unfold gr
    rw [List.map_map]
    refine (List.map_id S).symm.trans (List.map_congr_left fun p hp => ?_)
    have b := g.bd p hp
    exact Prod.ext (by show p.1 = ((p.1.toNat : Nat) : Int); omega) (by show p.2 = ((p.2.toNat : Nat) : Int); omega)
  refine ⟨S.map fun p => (p.1.toNat, p.2.toNat), e, ⟨e ▸ g, h1, h6⟩, fun p hp => ?_, ?_, ?_⟩
  · obtain ⟨q, hq, rfl⟩ := List.mem_map.mp hp
    have b := g.bd q hq
    simp only
    omega
  · have nd : S.Nodup := g.up.imp fun {x y} h e => by
      subst e
      simp [SrtO.lexB] at h
    refine nodup_map nd fun x hx y hy e => ?_
    have b1 := g.bd x hx
    have b2 := g.bd y hy
    have e1 := congrArg Prod.fst e
    have e2 := congrArg Prod.snd e
    simp only at e1 e2
    exact Prod.ext (by omega) (by omega)
  · rw [List.length_map]
    exact Nat.le_trans hs.length_le e15
section
variable {ns : List Int} {d0 : O} {x2 x3 x4 x5 x6 x7 x8 x9 x10 : Option O} {m : Nat} {s : List (Nat × Nat)}
def LW (ns : List Int) (d0 : O) (x2 x3 x4 x5 x6 x7 x8 x9 x10 : Option O) : Rho := [some (.val (.scr ns)), some d0, x2, x3, x4, x5, x6, x7, x8, x9, x10, none]
def t0 : MS := sAsgV 3 (mCall m_law_rivals (aSl 1 (aCons (mC (.int (6))) aNil)))
theorem t0_run (zs : List Int) (f a : Int) (hf : 0 ≤ f) (ha : 0 ≤ a) : ∃ (m : Nat) (s : List (Nat × Nat)) (a' : Int), (OkG m s ∧ (∀ p ∈ s, p.1 < p.2 ∧ p.2 < m) ∧ s.Nodup ∧ s.length ≤ 15) ∧ 0 ≤ a' ∧ RunS t0 [] (LW ns (drawO zs f a) x2 x3 x4 x5 x6 x7 x8 x9 x10) .nx (LW ns (drawO zs f a') x2 (some (.val (plainD m (gr s)))) x4 x5 x6 x7 x8 x9 x10) := by
  obtain ⟨m, S, a', h1, h6, hs, ha', h⟩ := rivals zs f a 6 hf ha (by decide) (by decide)
  obtain ⟨s, rfl, ok⟩ := natS h1 h6 hs
  refine ⟨m, s, a', ok, by omega, ?_⟩
  have h' : m_law_rivals [drawO zs f a, .val (.int 6)] = some (.ok (.val (plainD m (gr s))), [drawO zs f a', .val (.int 6)]) := h
  have c : mCall m_law_rivals (aSl 1 (aCons (mC (.int (6))) aNil)) (LW ns (drawO zs f a) x2 x3 x4 x5 x6 x7 x8 x9 x10) = some (.ok (.val (plainD m (gr s))), LW ns (drawO zs f a') x2 x3 x4 x5 x6 x7 x8 x9 x10) := by
    unfold drawO at h' ⊢
    generalize plainD m (gr s) = P at h' ⊢
    simp [mFn0, mFn, sSeq, sThen, sIf, sRet, sNx, sAsgV, setV, mOp2, mOpL, look, O.pk, mVar, mC, bnd, mCB, aCons, aNil, dsOf, fOr1, fLen, fIntOf, fCmp, fInt, fIntC, O.frz, fIxA, fAddA, fMulA, fOr, fIx, pinsAux, fin, O.isOwn, bMod, bMul, bDivW, bPow, mTup, mCall, splitIo, aSl, aIo, dsOnly, LW, h']
  unfold RunS t0 sAsgV
  rw [c]
  rfl
def MK5 : M := mMake 5 m_Rivals___init__ (aCons (mOp2 fIxA (mVar 3) (mC (.int (0)))) (aCons (mOp2 fIxA (mVar 3) (mC (.int (1)))) aNil)) aNil (fun ds zs => ds ++ zs) 2 0
def t1 : MS := sAsgP (.tu ((.nm 4) :: (.nm 5) :: [])) (mTup (aCons MK5 (aCons (mCall m_law_parts (aCons (mVar 3) (aCons (mLst aNil) (aCons (mC (.int (0))) aNil)))) aNil)))
def szD (m : Nat) (s : List (Nat × Nat)) : D := .lst ((partP (AdOf s) m [] 0).map nI)
theorem bd6 {m : Nat} (h : m ≤ 6) : bd m 0 ≤ 1000 := by
  have : m = 0 ∨ m = 1 ∨ m = 2 ∨ m = 3 ∨ m = 4 ∨ m = 5 ∨ m = 6 := by omega
  rcases this with rfl | rfl | rfl | rfl | rfl | rfl | rfl <;> decide +kernel
theorem t1_run (G : OkG m s) : RunS t1 [] (LW ns d0 x2 (some (.val (plainD m (gr s)))) x4 x5 x6 x7 x8 x9 x10) .nx (LW ns d0 x2 (some (.val (plainD m (gr s)))) (some (.val (rivD m (gr s)))) (some (.val (szD m s))) x6 x7 x8 x9 x10) := by
  have h6 := G.h6
  obtain ⟨o, p1, p2⟩ := parts_run m s (by omega) m 8 [] 0 (by omega) (by omega) (bd6 h6) (by simp) (by simp)
  have pl := e_v (i := 3) (ρ := LW ns d0 x2 (some (.val (plainD m (gr s)))) x4 x5 x6 x7 x8 x9 x10) (d := plainD m (gr s)) rfl
  have mk : RunE MK5 (LW ns d0 x2 (some (.val (plainD m (gr s)))) x4 x5 x6 x7 x8 x9 x10) (.ins 5 (rvF m (gr s))) := makeR (a_cons (e_op pl e_c (pl_0 m (gr s))) (a_cons (e_op pl e_c (pl_1 m (gr s))) a_nil)) G.h1 (by omega) G.g
  have pc := e_call (fn := m_law_parts) (a_cons pl (a_cons (e_lst a_nil (le_of rfl)) (a_cons (e_c (d := .int 0)) a_nil))) (o := o) p1
  have := e_tup (a_cons mk (a_cons pc a_nil)) (le_of rfl)
  rw [p2] at this
  exact s_pat this rfl
def t2 : MS := sIf (mOp2 fNe (mCall m_partings (aCons (mVar 4) aNil)) (mLc (iRange1 (aCons (mOp2 fAddA (mOp2 fIxA (mVar 3) (mC (.int (0)))) (mC (.int (1)))) aNil)) [11] (.nm 11) mYes (mCnt (mVar 5) (mVar 11)))) (sRet (mC (.bl false))) sNx
theorem t2_run (G : OkG m s) : RunS t2 [] (LW ns d0 x2 (some (.val (plainD m (gr s)))) (some (.val (rivD m (gr s)))) (some (.val (szD m s))) x6 x7 x8 x9 x10) .nx (LW ns d0 x2 (some (.val (plainD m (gr s)))) (some (.val (rivD m (gr s)))) (some (.val (szD m s))) x6 x7 x8 x9 x10) := by
  have h6 := G.h6
  have pl := e_v (i := 3) (ρ := LW ns d0 x2 (some (.val (plainD m (gr s)))) (some (.val (rivD m (gr s)))) (some (.val (szD m s))) x6 x7 x8 x9 x10) (d := plainD m (gr s)) rfl
  have rg := a_cons (e_op (f := fAddA) (e_op pl e_c (pl_0 m (gr s))) (e_c (d := .int 1)) (add_int _ _)) a_nil
  have rg' : RunA (aCons (mOp2 fAddA (mOp2 fIxA (mVar 3) (mC (.int (0)))) (mC (.int (1)))) aNil) (LW ns d0 x2 (some (.val (plainD m (gr s)))) (some (.val (rivD m (gr s)))) (some (.val (szD m s))) x6 x7 x8 x9 x10) [D.int ((m : Int) + 1)] := rg
  rw [nat1] at rg'
  have iN : intsD ((partP (AdOf s) m [] 0).map nI) = some ((partP (AdOf s) m [] 0).map fun (n : Nat) => (n : Int)) := by
    have e : (partP (AdOf s) m [] 0).map nI = ((partP (AdOf s) m [] 0).map fun (n : Nat) => (n : Int)).map D.int := by
      rw [List.map_map]
      rfl
    rw [e, intsD_map]
  have lc := e_lcma (f := nI) (l := List.range (m + 1)) (vs := [11]) (q := .nm 11) (me := mCnt (mVar 5) (mVar 11)) (fun k => [some (.val (.scr ns)), some d0, x2, some (.val (plainD m (gr s))), some (.val (rivD m (gr s))), some (.val (szD m s)), x6, x7, x8, x9, x10, some (.val (nI k))]) (fun k => nI (((grow (AdOf s) m).map nr).count k)) (i_rng (n := m + 1) rg' (by omega)) rfl (by simp; omega) fun k _ => ⟨rfl, rfl, _, e_cnt (e_v (d := szD m s) rfl) rfl iN (e_v (d := nI k) rfl) rfl, by
    show D.int ((((partP (AdOf s) m [] 0).map fun (n : Nat) => (n : Int)).count (k : Int) : Nat) : Int) = _
    rw [count_cast, parts_count]
    rfl⟩
  refine s_ifF (e_op (e_call (a_cons (e_v rfl) a_nil) (partings_run m s G)) lc ?_) s_nx
  show fNe (.lst (cntD m ((grow (AdOf s) m).map nr))) (.lst ((List.range (m + 1)).map fun k => nI (((grow (AdOf s) m).map nr).count k))) = _
  have e : ((List.range (m + 1)).map fun k => nI (((grow (AdOf s) m).map nr).count k)) = ((List.range (m + 1)).map fun k => ((((grow (AdOf s) m).map nr).count k : Nat) : Int)).map D.int := by
    rw [List.map_map]
    rfl
  unfold cntD
  rw [e, ne_ints]
def t3 : MS := sAsgV 6 (mCall m_law_row (aCons (mOp2 fIxA (mVar 3) (mC (.int (0)))) (aCons (mCB (fOr1 fList fListD) (aCons (mOp2 fIxA (mVar 3) (mC (.int (1)))) aNil)) aNil)))
theorem t3_run (G : OkG m s) (g : ∀ p ∈ s, p.1 < p.2 ∧ p.2 < m) (nd : s.Nodup) (hl : s.length ≤ 15) : RunS t3 [] (LW ns d0 x2 (some (.val (plainD m (gr s)))) x4 x5 x6 x7 x8 x9 x10) .nx (LW ns d0 x2 (some (.val (plainD m (gr s)))) x4 x5 (some (.val (iL (polyL m s)))) x7 x8 x9 x10) := by
  have h6 := G.h6
  obtain ⟨o, row, r1, r2, r3, r4⟩ := (row_run 20 m s (by omega) (by omega) g nd (by omega)).ex
  have er : row = polyL m s := evP_eq (r3.trans (polyL_len m s).symm) fun x => by rw [r4, polyL_ev]
  have pl := e_v (i := 3) (ρ := LW ns d0 x2 (some (.val (plainD m (gr s)))) x4 x5 x6 x7 x8 x9 x10) (d := plainD m (gr s)) rfl
  have ls : RunE (mCB (fOr1 fList fListD) (aCons (mOp2 fIxA (mVar 3) (mC (.int (1)))) aNil)) (LW ns d0 x2 (some (.val (plainD m (gr s)))) x4 x5 x6 x7 x8 x9 x10) (.lst (s.map tupN)) := e_cb (a_cons (e_op pl e_c (pl_1 m (gr s))) a_nil) (by
    rw [tupN_toI]
    rfl)
  have := s_set (i := 6) (p := []) (e_call (fn := m_law_row) (a_cons (e_op pl e_c (pl_0 m (gr s))) (a_cons ls a_nil)) (o := o) r1) (le_of rfl) (by decide)
  rw [r2, er] at this
  exact this
def t4 : MS := sIf (mOp2 fNe (mCall m_polynomial (aCons (mVar 4) aNil)) (mVar 6)) (sRet (mC (.bl false))) sNx
theorem t4_run (G : OkG m s) : RunS t4 [] (LW ns d0 x2 x3 (some (.val (rivD m (gr s)))) x5 (some (.val (iL (polyL m s)))) x7 x8 x9 x10) .nx (LW ns d0 x2 x3 (some (.val (rivD m (gr s)))) x5 (some (.val (iL (polyL m s)))) x7 x8 x9 x10) :=
  s_ifF (e_op (e_call (a_cons (e_v rfl) a_nil) (poly_run m s G)) (e_v (d := iL (polyL m s)) rfl) (ne_ints _)) s_nx
theorem ne_self (z : Int) : fNe (.int z) (.int z) = some (.val (.bl false)) := by
  rw [ne_int]
  simp
def b5 : MS := sIf (mOp2 fNe (mCall m_ways (aCons (mVar 4) (aCons (mVar 7) aNil))) (mCall m_law_tries (aCons (mVar 3) (aCons (mVar 7) (aCons (mTup aNil) aNil))))) (sRet (mC (.bl false))) sNx
def t5 : MS := sFor (iRange1 (aCons (mC (.int (4))) aNil)) (.nm 7) b5
theorem t5_run (G : OkG m s) : ∃ y7, RunS t5 [] (LW ns d0 x2 (some (.val (plainD m (gr s)))) (some (.val (rivD m (gr s)))) x5 x6 x7 x8 x9 x10) .nx (LW ns d0 x2 (some (.val (plainD m (gr s)))) (some (.val (rivD m (gr s)))) x5 x6 y7 x8 x9 x10) := by
  have h6 := G.h6
  obtain ⟨ρ', h1, y7, rfl⟩ := s_form (s := b5) (q := .nm 7) (p := []) (f := nI) (l := List.range 4) (mi := iRange1 (aCons (mC (.int (4))) aNil)) (ρ := LW ns d0 x2 (some (.val (plainD m (gr s)))) (some (.val (rivD m (gr s)))) x5 x6 x7 x8 x9 x10)
    (fun _ ρ => ∃ y7, ρ = LW ns d0 x2 (some (.val (plainD m (gr s)))) (some (.val (rivD m (gr s)))) x5 x6 y7 x8 x9 x10)
    (i_rng (n := 4) (a_cons e_c a_nil) (by omega)) ⟨_, rfl⟩ (fun i x ρ hx ⟨y7, hy⟩ => by
      subst hy
      have hx : x < 4 := List.mem_range.mp (List.mem_of_getElem? hx)
      exact ⟨LW ns d0 x2 (some (.val (plainD m (gr s)))) (some (.val (rivD m (gr s)))) x5 x6 (some (.val (nI x))) x8 x9 x10, _, rfl, s_ifF (e_op (e_call (a_cons (e_v rfl) (a_cons (e_v rfl) a_nil)) (ways_run m s G x (by omega))) (e_call (fn := m_law_tries) (a_cons (e_v rfl) (a_cons (e_v rfl) (a_cons (e_tup a_nil (le_of rfl)) a_nil))) (tries_run m s x (by omega) (by omega) m 8 [] (by simp) (by omega))) (ne_self _)) s_nx, _, rfl⟩)
  exact ⟨y7, h1⟩
def b6 : MS := sPar 8 9 (aCons (mOp2 fAddA (mVar 8) (mOp2 fMulA (mVar 10) (mVar 9))) (aCons (mOp2 fMulA (mVar 9) (mVar 7)) aNil))
def c6 : MS := sSeq (sAsgP (.tu ((.nm 8) :: (.nm 9) :: [])) (mTup (aCons (mC (.int (0))) (aCons (mC (.int (1))) aNil)))) (sSeq (sFor (iWalkA (mVar 6)) (.nm 10) b6) (sIf (mOp2 fNe (mCall m_ways (aCons (mVar 4) (aCons (mVar 7) aNil))) (mVar 8)) (sRet (mC (.bl false))) sNx))
def t6 : MS := sFor (iWalkA (mTup (aCons (mC (.int (7))) (aCons (mC (.int (20))) aNil)))) (.nm 7) c6
theorem pow_small {L j : Nat} (hL : L ≤ 20) (hj : j ≤ 7) : -(2 ^ 64) < (L : Int) ^ j ∧ (L : Int) ^ j < 2 ^ 64 := by
  have h0 : (0 : Int) ≤ (L : Int) ^ j := Int.pow_nonneg (by omega)
  have e : ((L ^ j : Nat) : Int) = (L : Int) ^ j := by simp
  have h1 : L ^ j ≤ 20 ^ 7 := Nat.le_trans (Nat.pow_le_pow_left hL j) (Nat.pow_le_pow_right (by decide) hj)
  have h2 : (20 : Nat) ^ 7 = 1280000000 := by decide
  omega
theorem c6_run (G : OkG m s) {L : Nat} (hL : L ≤ 20) : ∃ y8 y9 y10, RunS c6 [] (LW ns d0 x2 x3 (some (.val (rivD m (gr s)))) x5 (some (.val (iL (polyL m s)))) (some (.val (nI L))) x8 x9 x10) .nx (LW ns d0 x2 x3 (some (.val (rivD m (gr s)))) x5 (some (.val (iL (polyL m s)))) (some (.val (nI L))) y8 y9 y10) := by
  have h6 := G.h6
  have pl := polyL_len m s
  obtain ⟨ρ', h1, y10, h2⟩ := s_form (s := b6) (q := .nm 10) (p := []) (f := D.int) (l := polyL m s) (mi := iWalkA (mVar 6)) (ρ := LW ns d0 x2 x3 (some (.val (rivD m (gr s)))) x5 (some (.val (iL (polyL m s)))) (some (.val (nI L))) (some (.val (.int 0))) (some (.val (.int 1))) x10)
    (fun j ρ => ∃ y10, ρ = LW ns d0 x2 x3 (some (.val (rivD m (gr s)))) x5 (some (.val (iL (polyL m s)))) (some (.val (nI L))) (some (.val (.int (evP ((polyL m s).take j) (L : Int))))) (some (.val (.int ((L : Int) ^ j)))) y10)
    (i_wlk (e_v rfl) rfl) ⟨x10, by simp [evP]⟩ (fun j z ρ hz ⟨y10, hy⟩ => by
      subst hy
      have hj : j < (polyL m s).length := (List.getElem?_eq_some_iff.mp hz).1
      have ps := pow_small (L := L) (j := j) hL (by omega)
      refine ⟨LW ns d0 x2 x3 (some (.val (rivD m (gr s)))) x5 (some (.val (iL (polyL m s)))) (some (.val (nI L))) (some (.val (.int (evP ((polyL m s).take j) (L : Int))))) (some (.val (.int ((L : Int) ^ j)))) (some (.val (.int z))), _, rfl, s_par (a_cons (e_op (e_v rfl) (e_op (e_v (d := .int z) rfl) (e_v (d := .int ((L : Int) ^ j)) rfl) (mul_R ps)) (add_int _ _)) (a_cons (e_op (e_v (d := .int ((L : Int) ^ j)) rfl) (e_v (d := .int (L : Int)) rfl) (mul_R ⟨by omega, by omega⟩)) a_nil)) (le_of rfl) (le_of rfl), some (.val (.int z)), ?_⟩
      rw [take_snoc hz, evP_snoc, List.length_take, Nat.min_eq_left (Nat.le_of_lt hj), Int.pow_succ]
      rfl)
  subst h2
  rw [List.take_length, polyL_ev] at h1
  refine ⟨_, _, _, s_seq (ρ1 := LW ns d0 x2 x3 (some (.val (rivD m (gr s)))) x5 (some (.val (iL (polyL m s)))) (some (.val (nI L))) (some (.val (.int 0))) (some (.val (.int 1))) x10) (s_pat (e_tup (a_cons (e_c (d := .int 0)) (a_cons (e_c (d := .int 1)) a_nil)) (le_of rfl)) rfl) (s_seq h1 (s_ifF (e_op (e_call (a_cons (e_v rfl) (a_cons (e_v rfl) a_nil)) (ways_run m s G L hL)) (e_v (d := .int (W s L m)) rfl) (ne_self _)) s_nx))⟩
theorem t6_run (G : OkG m s) : ∃ y7 y8 y9 y10, RunS t6 [] (LW ns d0 x2 x3 (some (.val (rivD m (gr s)))) x5 (some (.val (iL (polyL m s)))) x7 x8 x9 x10) .nx (LW ns d0 x2 x3 (some (.val (rivD m (gr s)))) x5 (some (.val (iL (polyL m s)))) y7 y8 y9 y10) := by
  obtain ⟨ρ', h1, y7, y8, y9, y10, rfl⟩ := s_form (s := c6) (q := .nm 7) (p := []) (f := nI) (l := [7, 20]) (mi := iWalkA (mTup (aCons (mC (.int (7))) (aCons (mC (.int (20))) aNil)))) (ρ := LW ns d0 x2 x3 (some (.val (rivD m (gr s)))) x5 (some (.val (iL (polyL m s)))) x7 x8 x9 x10)
    (fun _ ρ => ∃ y7 y8 y9 y10, ρ = LW ns d0 x2 x3 (some (.val (rivD m (gr s)))) x5 (some (.val (iL (polyL m s)))) y7 y8 y9 y10)
    (i_wlk (e_tup (a_cons e_c (a_cons e_c a_nil)) (le_of rfl)) rfl) ⟨_, _, _, _, rfl⟩ (fun i L ρ hL ⟨y7, y8, y9, y10, hy⟩ => by
      subst hy
      have hL : L ≤ 20 := by
        have := List.mem_of_getElem? hL
        simp at this
        omega
      obtain ⟨z8, z9, z10, h⟩ := c6_run (ns := ns) (d0 := d0) (x2 := x2) (x3 := x3) (x5 := x5) (x8 := y8) (x9 := y9) (x10 := y10) G hL
      exact ⟨LW ns d0 x2 x3 (some (.val (rivD m (gr s)))) x5 (some (.val (iL (polyL m s)))) (some (.val (nI L))) y8 y9 y10, _, rfl, h, _, _, _, _, rfl⟩)
  exact ⟨y7, y8, y9, y10, h1⟩
def turnB : MS := sSeq t0 (sSeq t1 (sSeq t2 (sSeq t3 (sSeq t4 (sSeq t5 t6)))))
theorem turn_run (zs : List Int) (a : Int) (ha : 0 ≤ a) : ∃ (a' : Int) (y3 y4 y5 y6 y7 y8 y9 y10 : Option O), 0 ≤ a' ∧ RunS turnB [] (LW ns (drawO zs 0 a) x2 x3 x4 x5 x6 x7 x8 x9 x10) .nx (LW ns (drawO zs 0 a') x2 y3 y4 y5 y6 y7 y8 y9 y10) := by
  obtain ⟨m, s, a', ⟨G, g, nd, hl⟩, ha', h0⟩ := t0_run (ns := ns) (x2 := x2) (x3 := x3) (x4 := x4) (x5 := x5) (x6 := x6) (x7 := x7) (x8 := x8) (x9 := x9) (x10 := x10) zs 0 a (by omega) ha
  obtain ⟨y7, h5⟩ := t5_run (ns := ns) (d0 := drawO zs 0 a') (x2 := x2) (x5 := some (.val (szD m s))) (x6 := some (.val (iL (polyL m s)))) (x7 := x7) (x8 := x8) (x9 := x9) (x10 := x10) G
  obtain ⟨z7, z8, z9, z10, h6⟩ := t6_run (ns := ns) (d0 := drawO zs 0 a') (x2 := x2) (x3 := some (.val (plainD m (gr s)))) (x5 := some (.val (szD m s))) (x7 := y7) (x8 := x8) (x9 := x9) (x10 := x10) G
  exact ⟨a', _, _, _, _, _, _, _, _, ha', s_seq h0 (s_seq (t1_run G) (s_seq (t2_run G) (s_seq (t3_run G g nd hl) (s_seq (t4_run G) (s_seq h5 h6)))))⟩
end
theorem law_true (ns : List Int) : m_law [.val (.scr ns)] = some (.ok (.val (.bl true)), [.val (.scr ns)]) := by
  have em : m_law = mFn0 1 12 (sSeq (sAsgO 1 (mLst (aCons (mSl (mVar 0) oNone (oPart (mC (.int (63))))) (aCons (mC (.int (0))) (aCons (mC (.int (0))) aNil))))) (sSeq (sFor (iRange1 (aCons (mC (.int (2))) aNil)) (.nm 2) turnB) (sRet (mC (.bl true))))) := rfl
  obtain ⟨zs, hz⟩ : ∃ zs : List Int, VL.cutD (ns.map .int) none (some 63) = zs.map .int := ⟨(ns.drop _).take _, by unfold VL.cutD; rw [← List.map_drop, ← List.map_take]⟩
  have e0 : RunS (sAsgO 1 (mLst (aCons (mSl (mVar 0) oNone (oPart (mC (.int (63))))) (aCons (mC (.int (0))) (aCons (mC (.int (0))) aNil))))) [] [some (.val (.scr ns)), none, none, none, none, none, none, none, none, none, none, none] .nx (LW ns (drawO zs 0 0) none none none none none none none none none) := by
    have := s_setO (i := 1) (p := []) (ρ := [some (.val (.scr ns)), none, none, none, none, none, none, none, none, none, none, none]) (e_lst (a_cons (e_sl (a := mVar 0) (e_v (i := 0) (d := .scr ns) rfl) o_none (o_part (e_c (d := .int 63)) rfl) (o := .lst (zs.map .int)) (by
      show some (O.lst (VL.cutD (ns.map .int) none (some 63))) = _
      rw [hz])) (a_cons (e_c (d := .int 0)) (a_cons (e_c (d := .int 0)) a_nil))) (le_of rfl)) (le_of rfl) (by decide)
    exact this
  obtain ⟨ρ', h1, a, u2, u3, u4, u5, u6, u7, u8, u9, u10, h2, rfl⟩ := s_form (s := turnB) (q := .nm 2) (p := []) (f := nI) (l := List.range 2) (mi := iRange1 (aCons (mC (.int (2))) aNil)) (ρ := LW ns (drawO zs 0 0) none none none none none none none none none)
    (fun _ ρ => ∃ (a : Int) (u2 u3 u4 u5 u6 u7 u8 u9 u10 : Option O), 0 ≤ a ∧ ρ = LW ns (drawO zs 0 a) u2 u3 u4 u5 u6 u7 u8 u9 u10)
    (i_rng (n := 2) (a_cons e_c a_nil) (by omega)) ⟨0, _, _, _, _, _, _, _, _, _, by omega, rfl⟩ (fun i x ρ hx ⟨a, u2, u3, u4, u5, u6, u7, u8, u9, u10, ha, hy⟩ => by
      subst hy
      obtain ⟨a', y3, y4, y5, y6, y7, y8, y9, y10, ha', h⟩ := turn_run (ns := ns) (x2 := some (.val (nI x))) (x3 := u3) (x4 := u4) (x5 := u5) (x6 := u6) (x7 := u7) (x8 := u8) (x9 := u9) (x10 := u10) zs a ha
      exact ⟨LW ns (drawO zs 0 a) (some (.val (nI x))) u3 u4 u5 u6 u7 u8 u9 u10, _, rfl, h, a', _, _, _, _, _, _, _, _, _, ha', rfl⟩)
  rw [em]
  exact f_ret (ds := [.scr ns]) rfl (le_of rfl) (s_seq e0 (s_seq h1 (s_ret e_c))) (le_of rfl)
end VM

end
open PySem PySem.Spec
open PyProof.Rows L2
namespace VG
open VL
def ps_BadRivals : VX.Ps := ⟨⟨13, 17, 13, 21⟩, ⟨13, 23, 13, 27⟩, ⟨13, 28, 13, 32⟩, ⟨14, 8, 14, 13⟩, ⟨14, 8, 14, 15⟩, ⟨14, 8, 14, 24⟩, ⟨14, 27, 14, 54⟩, ⟨14, 55, 14, 59⟩, ⟨14, 54, 14, 60⟩, ⟨14, 25, 14, 61⟩, ⟨14, 8, 14, 62⟩, ⟨14, 8, 14, 62⟩, ⟨15, 8, 15, 12⟩, ⟨15, 8, 15, 17⟩, ⟨15, 20, 15, 24⟩, ⟨15, 8, 15, 24⟩⟩
theorem all_txt {P : Program} {w : World} {K : PySem.W.Frag} {h : Heap} {mg : Str → Option Value} (X : K.In h) (G : h.Ns mainGlobals mg)
    {f2 : Addr} {od2 an2 : Option Addr} {sl2 : Array (Option Value)} {oc2 kV2 dc2 pm2 cd2 ct2 : Value}
    {f3 : Addr} {od3 an3 : Option Addr} {sl3 : Array (Option Value)} {oc3 kV3 dc3 pm3 cd3 ct3 : Value}
    {f4 : Addr} {od4 an4 : Option Addr} {sl4 : Array (Option Value)} {oc4 kV4 dc4 pm4 cd4 ct4 : Value}
    {f5 : Addr} {od5 an5 : Option Addr} {sl5 : Array (Option Value)} {oc5 kV5 dc5 pm5 cd5 ct5 : Value}
    {f6 : Addr} {od6 an6 : Option Addr} {sl6 : Array (Option Value)} {oc6 kV6 dc6 pm6 cd6 ct6 : Value}
    {f13 : Addr} {od13 an13 : Option Addr} {sl13 : Array (Option Value)} {oc13 kV13 dc13 pm13 cd13 ct13 : Value}
    {f17 : Addr} {od17 an17 : Option Addr} {sl17 : Array (Option Value)} {oc17 kV17 dc17 pm17 cd17 ct17 : Value}
    {f19 : Addr} {od19 an19 : Option Addr} {sl19 : Array (Option Value)} {oc19 kV19 dc19 pm19 cd19 ct19 : Value}
    {f20 : Addr} {od20 an20 : Option Addr} {sl20 : Array (Option Value)} {oc20 kV20 dc20 pm20 cd20 ct20 : Value}
    {f24 : Addr} {od24 an24 : Option Addr} {sl24 : Array (Option Value)} {oc24 kV24 dc24 pm24 cd24 ct24 : Value}
    {f25 : Addr} {od25 an25 : Option Addr} {sl25 : Array (Option Value)} {oc25 kV25 dc25 pm25 cd25 ct25 : Value}
    {f26 : Addr} {od26 an26 : Option Addr} {sl26 : Array (Option Value)} {oc26 kV26 dc26 pm26 cd26 ct26 : Value}
    {f27 : Addr} {od27 an27 : Option Addr} {sl27 : Array (Option Value)} {oc27 kV27 dc27 pm27 cd27 ct27 : Value}
    {f28 : Addr} {od28 an28 : Option Addr} {sl28 : Array (Option Value)} {oc28 kV28 dc28 pm28 cd28 ct28 : Value}
    {f29 : Addr} {od29 an29 : Option Addr} {sl29 : Array (Option Value)} {oc29 kV29 dc29 pm29 cd29 ct29 : Value}
    {f30 : Addr} {od30 an30 : Option Addr} {sl30 : Array (Option Value)} {oc30 kV30 dc30 pm30 cd30 ct30 : Value}
    {f31 : Addr} {od31 an31 : Option Addr} {sl31 : Array (Option Value)} {oc31 kV31 dc31 pm31 cd31 ct31 : Value}
    {f32 : Addr} {od32 an32 : Option Addr} {sl32 : Array (Option Value)} {oc32 kV32 dc32 pm32 cd32 ct32 : Value}
    {f33 : Addr} {od33 an33 : Option Addr} {sl33 : Array (Option Value)} {oc33 kV33 dc33 pm33 cd33 ct33 : Value}
    {f34 : Addr} {od34 an34 : Option Addr} {sl34 : Array (Option Value)} {oc34 kV34 dc34 pm34 cd34 ct34 : Value}
    {f35 : Addr} {od35 an35 : Option Addr} {sl35 : Array (Option Value)} {oc35 kV35 dc35 pm35 cd35 ct35 : Value}
    {f36 : Addr} {od36 an36 : Option Addr} {sl36 : Array (Option Value)} {oc36 kV36 dc36 pm36 cd36 ct36 : Value}
    {f21 : Addr} {od21 an21 : Option Addr} {sl21 : Array (Option Value)} {oc21 kV21 dc21 pm21 cd21 ct21 : Value}
    {f22 : Addr} {od22 an22 : Option Addr} {sl22 : Array (Option Value)} {oc22 kV22 dc22 pm22 cd22 ct22 : Value}
    {f23 : Addr} {od23 an23 : Option Addr} {sl23 : Array (Option Value)} {oc23 kV23 dc23 pm23 cd23 ct23 : Value}
    {f37 : Addr} {od37 an37 : Option Addr} {sl37 : Array (Option Value)} {oc37 kV37 dc37 pm37 cd37 ct37 : Value}
    {t_MOST_RIVALS : Tok}
    {t_MOST_ROOMS : Tok}
    {C5 : Addr}
    {f7 T7 A7 : Addr} {od7 an7 : Option Addr} {sl7 : Array (Option Value)} {oc7 kV7 dc7 pm7 cd7 ct7 : Value} {oT7 oA7 : Obj} {nT7 nA7 : Nat}
    {C3 : Addr}
    {nm3 qn3 : Str} {N3 fI3 T3 cc3 cda3 B3 : Addr} {bs3 sub3 : List Value} {sn3 : List Str} {ab3 : Bool} {col3 : Option Bool} {dd3 : Option Addr} {m0_3 m1_3 m2_3 m3_3 m5_3 : Option Value} {ocI3 kVI3 dcI3 pmI3 ctI3 ccl3 cel3 : Value} {odI3 anI3 cdd3 cld3 : Option Addr} {slI3 ccs3 csl3 : Array (Option Value)} {vs3 : Array Value} {file3 : Str} {tf3 : Tok} {oT3 : Obj} {nT3 : Nat}
    (a2 : PySem.W.nsIn K mainGlobals "is_whole" = some (some (.ref f2)))
    (a3 : PySem.W.nsIn K mainGlobals "is_integer" = some (some (.ref f3)))
    (a4 : PySem.W.nsIn K mainGlobals "are_integers" = some (some (.ref f4)))
    (a5 : PySem.W.nsIn K mainGlobals "is_ascending" = some (some (.ref f5)))
    (a6 : PySem.W.nsIn K mainGlobals "check_limit" = some (some (.ref f6)))
    (a17 : PySem.W.nsIn K mainGlobals "check_rivals" = some (some (.ref f17)))
    (a19 : PySem.W.nsIn K mainGlobals "is_pair" = some (some (.ref f19)))
    (a20 : PySem.W.nsIn K mainGlobals "are_pairs" = some (some (.ref f20)))
    (a24 : PySem.W.nsIn K mainGlobals "all_partings" = some (some (.ref f24)))
    (a25 : PySem.W.nsIn K mainGlobals "choices" = some (some (.ref f25)))
    (a26 : PySem.W.nsIn K mainGlobals "_law_cell_at" = some (some (.ref f26)))
    (a27 : PySem.W.nsIn K mainGlobals "_law_draw" = some (some (.ref f27)))
    (a28 : PySem.W.nsIn K mainGlobals "_law_number" = some (some (.ref f28)))
    (a29 : PySem.W.nsIn K mainGlobals "_law_next" = some (some (.ref f29)))
    (a30 : PySem.W.nsIn K mainGlobals "_law_every" = some (some (.ref f30)))
    (a31 : PySem.W.nsIn K mainGlobals "_law_rivals" = some (some (.ref f31)))
    (a32 : PySem.W.nsIn K mainGlobals "_law_are" = some (some (.ref f32)))
    (a33 : PySem.W.nsIn K mainGlobals "_law_tries" = some (some (.ref f33)))
    (a34 : PySem.W.nsIn K mainGlobals "_law_parts" = some (some (.ref f34)))
    (a35 : PySem.W.nsIn K mainGlobals "_law_drawn_in" = some (some (.ref f35)))
    (a36 : PySem.W.nsIn K mainGlobals "_law_row" = some (some (.ref f36)))
    (a21 : PySem.W.nsIn K mainGlobals "partings" = some (some (.ref f21)))
    (a22 : PySem.W.nsIn K mainGlobals "polynomial" = some (some (.ref f22)))
    (a23 : PySem.W.nsIn K mainGlobals "ways" = some (some (.ref f23)))
    (a37 : PySem.W.nsIn K mainGlobals "law" = some (some (.ref f37)))
    (aC5 : PySem.W.nsIn K mainGlobals "Rivals" = some (some (.ref C5)))
    (a7 : PySem.W.findIn K (.ref C5) "__init__" = some (some (.ref f7)))
    (aC3 : PySem.W.nsIn K mainGlobals "BadRivals" = some (some (.ref C3)))
    (mt13 : PySem.W.findIn K (.ref C5) "__getitem__" = some (some (.ref f13)))
    (l2 : K.lookup f2 = some ⟨oc2, od2, .func (PySem.W.fnOf "is_whole" "is_whole" (defArgs s_is_whole) (defBody s_is_whole) (defScope s_is_whole) .none kV2 dc2 pm2 an2 cd2 ct2), sl2⟩)
    (c2 : PySem.W.codeIn K cd2 "is_whole" = true)
    (k2 : PySem.W.keepIn K (.ref f2) = true)
    (l3 : K.lookup f3 = some ⟨oc3, od3, .func (PySem.W.fnOf "is_integer" "is_integer" (defArgs s_is_integer) (defBody s_is_integer) (defScope s_is_integer) .none kV3 dc3 pm3 an3 cd3 ct3), sl3⟩)
    (c3 : PySem.W.codeIn K cd3 "is_integer" = true)
    (k3 : PySem.W.keepIn K (.ref f3) = true)
    (l4 : K.lookup f4 = some ⟨oc4, od4, .func (PySem.W.fnOf "are_integers" "are_integers" (defArgs s_are_integers) (defBody s_are_integers) (defScope s_are_integers) .none kV4 dc4 pm4 an4 cd4 ct4), sl4⟩)
    (c4 : PySem.W.codeIn K cd4 "are_integers" = true)
    (k4 : PySem.W.keepIn K (.ref f4) = true)
    (l5 : K.lookup f5 = some ⟨oc5, od5, .func (PySem.W.fnOf "is_ascending" "is_ascending" (defArgs s_is_ascending) (defBody s_is_ascending) (defScope s_is_ascending) .none kV5 dc5 pm5 an5 cd5 ct5), sl5⟩)
    (c5 : PySem.W.codeIn K cd5 "is_ascending" = true)
    (k5 : PySem.W.keepIn K (.ref f5) = true)
    (l6 : K.lookup f6 = some ⟨oc6, od6, .func (PySem.W.fnOf "check_limit" "check_limit" (defArgs s_check_limit) (defBody s_check_limit) (defScope s_check_limit) .none kV6 dc6 pm6 an6 cd6 ct6), sl6⟩)
    (c6 : PySem.W.codeIn K cd6 "check_limit" = true)
    (k6 : PySem.W.keepIn K (.ref f6) = true)
    (l13 : K.lookup f13 = some ⟨oc13, od13, .func (PySem.W.fnOf "__getitem__" "Rivals.__getitem__" (defArgs s_Rivals___getitem__) (defBody s_Rivals___getitem__) (defScope s_Rivals___getitem__) .none kV13 dc13 pm13 an13 cd13 ct13), sl13⟩)
    (c13 : PySem.W.codeIn K cd13 "Rivals.__getitem__" = true)
    (k13 : PySem.W.keepIn K (.ref f13) = true)
    (l17 : K.lookup f17 = some ⟨oc17, od17, .func (PySem.W.fnOf "check_rivals" "check_rivals" (defArgs s_check_rivals) (defBody s_check_rivals) (defScope s_check_rivals) .none kV17 dc17 pm17 an17 cd17 ct17), sl17⟩)
    (c17 : PySem.W.codeIn K cd17 "check_rivals" = true)
    (k17 : PySem.W.keepIn K (.ref f17) = true)
    (l19 : K.lookup f19 = some ⟨oc19, od19, .func (PySem.W.fnOf "is_pair" "is_pair" (defArgs s_is_pair) (defBody s_is_pair) (defScope s_is_pair) .none kV19 dc19 pm19 an19 cd19 ct19), sl19⟩)
    (c19 : PySem.W.codeIn K cd19 "is_pair" = true)
    (k19 : PySem.W.keepIn K (.ref f19) = true)
    (l20 : K.lookup f20 = some ⟨oc20, od20, .func (PySem.W.fnOf "are_pairs" "are_pairs" (defArgs s_are_pairs) (defBody s_are_pairs) (defScope s_are_pairs) .none kV20 dc20 pm20 an20 cd20 ct20), sl20⟩)
    (c20 : PySem.W.codeIn K cd20 "are_pairs" = true)
    (k20 : PySem.W.keepIn K (.ref f20) = true)
    (l24 : K.lookup f24 = some ⟨oc24, od24, .func (PySem.W.fnOf "all_partings" "all_partings" (defArgs s_all_partings) (defBody s_all_partings) (defScope s_all_partings) .none kV24 dc24 pm24 an24 cd24 ct24), sl24⟩)
    (c24 : PySem.W.codeIn K cd24 "all_partings" = true)
    (k24 : PySem.W.keepIn K (.ref f24) = true)
    (l25 : K.lookup f25 = some ⟨oc25, od25, .func (PySem.W.fnOf "choices" "choices" (defArgs s_choices) (defBody s_choices) (defScope s_choices) .none kV25 dc25 pm25 an25 cd25 ct25), sl25⟩)
    (c25 : PySem.W.codeIn K cd25 "choices" = true)
    (k25 : PySem.W.keepIn K (.ref f25) = true)
    (l26 : K.lookup f26 = some ⟨oc26, od26, .func (PySem.W.fnOf "_law_cell_at" "_law_cell_at" (defArgs s_law_cell_at) (defBody s_law_cell_at) (defScope s_law_cell_at) .none kV26 dc26 pm26 an26 cd26 ct26), sl26⟩)
    (c26 : PySem.W.codeIn K cd26 "_law_cell_at" = true)
    (k26 : PySem.W.keepIn K (.ref f26) = true)
    (l27 : K.lookup f27 = some ⟨oc27, od27, .func (PySem.W.fnOf "_law_draw" "_law_draw" (defArgs s_law_draw) (defBody s_law_draw) (defScope s_law_draw) .none kV27 dc27 pm27 an27 cd27 ct27), sl27⟩)
    (c27 : PySem.W.codeIn K cd27 "_law_draw" = true)
    (k27 : PySem.W.keepIn K (.ref f27) = true)
    (l28 : K.lookup f28 = some ⟨oc28, od28, .func (PySem.W.fnOf "_law_number" "_law_number" (defArgs s_law_number) (defBody s_law_number) (defScope s_law_number) .none kV28 dc28 pm28 an28 cd28 ct28), sl28⟩)
    (c28 : PySem.W.codeIn K cd28 "_law_number" = true)
    (k28 : PySem.W.keepIn K (.ref f28) = true)
    (l29 : K.lookup f29 = some ⟨oc29, od29, .func (PySem.W.fnOf "_law_next" "_law_next" (defArgs s_law_next) (defBody s_law_next) (defScope s_law_next) .none kV29 dc29 pm29 an29 cd29 ct29), sl29⟩)
    (c29 : PySem.W.codeIn K cd29 "_law_next" = true)
    (k29 : PySem.W.keepIn K (.ref f29) = true)
    (l30 : K.lookup f30 = some ⟨oc30, od30, .func (PySem.W.fnOf "_law_every" "_law_every" (defArgs s_law_every) (defBody s_law_every) (defScope s_law_every) .none kV30 dc30 pm30 an30 cd30 ct30), sl30⟩)
    (c30 : PySem.W.codeIn K cd30 "_law_every" = true)
    (k30 : PySem.W.keepIn K (.ref f30) = true)
    (l31 : K.lookup f31 = some ⟨oc31, od31, .func (PySem.W.fnOf "_law_rivals" "_law_rivals" (defArgs s_law_rivals) (defBody s_law_rivals) (defScope s_law_rivals) .none kV31 dc31 pm31 an31 cd31 ct31), sl31⟩)
    (c31 : PySem.W.codeIn K cd31 "_law_rivals" = true)
    (k31 : PySem.W.keepIn K (.ref f31) = true)
    (l32 : K.lookup f32 = some ⟨oc32, od32, .func (PySem.W.fnOf "_law_are" "_law_are" (defArgs s_law_are) (defBody s_law_are) (defScope s_law_are) .none kV32 dc32 pm32 an32 cd32 ct32), sl32⟩)
    (c32 : PySem.W.codeIn K cd32 "_law_are" = true)
    (k32 : PySem.W.keepIn K (.ref f32) = true)
    (l33 : K.lookup f33 = some ⟨oc33, od33, .func (PySem.W.fnOf "_law_tries" "_law_tries" (defArgs s_law_tries) (defBody s_law_tries) (defScope s_law_tries) .none kV33 dc33 pm33 an33 cd33 ct33), sl33⟩)
    (c33 : PySem.W.codeIn K cd33 "_law_tries" = true)
    (k33 : PySem.W.keepIn K (.ref f33) = true)
    (l34 : K.lookup f34 = some ⟨oc34, od34, .func (PySem.W.fnOf "_law_parts" "_law_parts" (defArgs s_law_parts) (defBody s_law_parts) (defScope s_law_parts) .none kV34 dc34 pm34 an34 cd34 ct34), sl34⟩)
    (c34 : PySem.W.codeIn K cd34 "_law_parts" = true)
    (k34 : PySem.W.keepIn K (.ref f34) = true)
    (l35 : K.lookup f35 = some ⟨oc35, od35, .func (PySem.W.fnOf "_law_drawn_in" "_law_drawn_in" (defArgs s_law_drawn_in) (defBody s_law_drawn_in) (defScope s_law_drawn_in) .none kV35 dc35 pm35 an35 cd35 ct35), sl35⟩)
    (c35 : PySem.W.codeIn K cd35 "_law_drawn_in" = true)
    (k35 : PySem.W.keepIn K (.ref f35) = true)
    (l36 : K.lookup f36 = some ⟨oc36, od36, .func (PySem.W.fnOf "_law_row" "_law_row" (defArgs s_law_row) (defBody s_law_row) (defScope s_law_row) .none kV36 dc36 pm36 an36 cd36 ct36), sl36⟩)
    (c36 : PySem.W.codeIn K cd36 "_law_row" = true)
    (k36 : PySem.W.keepIn K (.ref f36) = true)
    (l21 : K.lookup f21 = some ⟨oc21, od21, .func (PySem.W.fnOf "partings" "partings" (defArgs s_partings) (defBody s_partings) (defScope s_partings) .none kV21 dc21 pm21 an21 cd21 ct21), sl21⟩)
    (c21 : PySem.W.codeIn K cd21 "partings" = true)
    (k21 : PySem.W.keepIn K (.ref f21) = true)
    (l22 : K.lookup f22 = some ⟨oc22, od22, .func (PySem.W.fnOf "polynomial" "polynomial" (defArgs s_polynomial) (defBody s_polynomial) (defScope s_polynomial) .none kV22 dc22 pm22 an22 cd22 ct22), sl22⟩)
    (c22 : PySem.W.codeIn K cd22 "polynomial" = true)
    (k22 : PySem.W.keepIn K (.ref f22) = true)
    (l23 : K.lookup f23 = some ⟨oc23, od23, .func (PySem.W.fnOf "ways" "ways" (defArgs s_ways) (defBody s_ways) (defScope s_ways) .none kV23 dc23 pm23 an23 cd23 ct23), sl23⟩)
    (c23 : PySem.W.codeIn K cd23 "ways" = true)
    (k23 : PySem.W.keepIn K (.ref f23) = true)
    (l37 : K.lookup f37 = some ⟨oc37, od37, .func (PySem.W.fnOf "law" "law" (defArgs s_law) (defBody s_law) (defScope s_law) .none kV37 dc37 pm37 an37 cd37 ct37), sl37⟩)
    (c37 : PySem.W.codeIn K cd37 "law" = true)
    (k37 : PySem.W.keepIn K (.ref f37) = true)
    (zb_all : PySem.W.nsIn K mainGlobals "all" = some none)
    (zb_any : PySem.W.nsIn K mainGlobals "any" = some none)
    (zb_bool : PySem.W.nsIn K mainGlobals "bool" = some none)
    (zb_enumerate : PySem.W.nsIn K mainGlobals "enumerate" = some none)
    (zb_int : PySem.W.nsIn K mainGlobals "int" = some none)
    (zb_isinstance : PySem.W.nsIn K mainGlobals "isinstance" = some none)
    (zb_len : PySem.W.nsIn K mainGlobals "len" = some none)
    (zb_list : PySem.W.nsIn K mainGlobals "list" = some none)
    (zb_max : PySem.W.nsIn K mainGlobals "max" = some none)
    (zb_min : PySem.W.nsIn K mainGlobals "min" = some none)
    (zb_range : PySem.W.nsIn K mainGlobals "range" = some none)
    (zb_sorted : PySem.W.nsIn K mainGlobals "sorted" = some none)
    (zb_sum : PySem.W.nsIn K mainGlobals "sum" = some none)
    (zb_tuple : PySem.W.nsIn K mainGlobals "tuple" = some none)
    (zb_zip : PySem.W.nsIn K mainGlobals "zip" = some none)
    (zk_MOST_RIVALS : PySem.W.nsIn K mainGlobals "MOST_RIVALS" = some (some (.int (8) t_MOST_RIVALS)))
    (zk_MOST_ROOMS : PySem.W.nsIn K mainGlobals "MOST_ROOMS" = some (some (.int (20) t_MOST_ROOMS)))
    (i7 : PySem.W.isFn K (.ref f7) = true)
    (l7 : K.lookup f7 = some ⟨oc7, od7, .func (PySem.W.fnOf "__init__" "Rivals.__init__" (defArgs s_Rivals___init__) (defBody s_Rivals___init__) (defScope s_Rivals___init__) (.ref T7) kV7 dc7 pm7 an7 cd7 ct7), sl7⟩)
    (c7 : PySem.W.codeIn K cd7 "Rivals.__init__" = true)
    (k7 : PySem.W.keepIn K (.ref f7) = true)
    (lT7 : K.lookup T7 = some oT7)
    (dT7 : oT7.data = .seq #[.ref A7] nT7)
    (lA7 : K.lookup A7 = some oA7)
    (dA7 : oA7.data = .seq #[] nA7)
    (cA7 : oA7.cls = .type "tuple")
    (mk5 : PySem.W.makesIn K C5 = true)
    (kc5 : PySem.W.keepIn K (.ref C5) = true)
    (pg5 : PySem.W.plainGet K C5 Str.empty = true)
    (hd5 : PySem.W.hasDictIn K C5 = true)
    (po5 : PySem.W.plainOver K C5 = true)
    (sa5 : PySem.W.findIn K (.ref C5) "__setattr__" = some (some (.builtin "object.__setattr__")))
    (n5_many : PySem.W.findIn K (.ref C5) "many" = some none)
    (n5_pairs : PySem.W.findIn K (.ref C5) "pairs" = some none)
    (fi13 : PySem.W.fnIn K f13 = true)
    (i13 : PySem.W.isFn K (.ref f13) = true)
    (kt5_NoneType : PySem.W.kitOne K (.type "NoneType") (.ref C5) = some false)
    (kt5_bool : PySem.W.kitOne K (.type "bool") (.ref C5) = some false)
    (kt5_int : PySem.W.kitOne K (.type "int") (.ref C5) = some false)
    (kt5_str : PySem.W.kitOne K (.type "str") (.ref C5) = some false)
    (kt5_tuple : PySem.W.kitOne K (.type "tuple") (.ref C5) = some false)
    (kt5_list : PySem.W.kitOne K (.type "list") (.ref C5) = some false)
    (kt5_dict : PySem.W.kitOne K (.type "dict") (.ref C5) = some false)
    (ca5 : PySem.W.findIn K (.ref C5) "__class__" = some (some (.builtin "object.__class__")))
    (spc : PySem.W.specialIn K (.builtin "object.__class__") "__get__" = some (some (.builtin "getset_descriptor.__get__")))
    (tkc : PySem.W.takesIn K (.builtin "object.__class__") = some true)
    (mo5 : PySem.W.mroIn K C5 (.type "object") = some true)
    (kk5_5 : PySem.W.kitOne K (.ref C5) (.ref C5) = some true)
    (np3 : PySem.W.findIn K (.ref C3) "part" = some none)
    (ex3 : PySem.W.subIn K (.ref C3) (.type "BaseException") = some true)
    (xL3 : K.lookup C3 = some (excClassObj nm3 qn3 C3 N3 bs3 [.ref B3, .type "ValueError", .type "Exception", .type "BaseException", .type "object"] true sn3 sub3 ab3 col3 dd3 m0_3 m1_3 m2_3 m3_3 m5_3 "ValueError.__new__"))
    (sx3 : PySem.W.findIn K (.ref C3) "__setattr__" = some (some (.builtin "object.__setattr__")))
    (iC3 : PySem.W.findIn K (.ref C3) "__init__" = some (some (.ref fI3)))
    (tI3 : PySem.W.typeIn K (.ref fI3) = some (.type "function"))
    (kx3 : PySem.W.keepIn K (.ref C3) = true)
    (ty3 : PySem.W.typeIn K (.ref C3) = some (.type "type"))
    (sv3 : PySem.W.subIn K (.ref C3) (.type "ValueError") = some true)
    (su3 : PySem.W.ks_superIn K C3 C3 "__init__" = some (some (.builtin "ValueError.__init__")))
    (mc3 : PySem.W.mroIn K C3 (.ref C3) = some true)
    (opq : PySem.W.nsIn K cStatics "thirdparty.any" = some none)
    (zsup : PySem.W.nsIn K mainGlobals "super" = some none)
    (lI3 : K.lookup fI3 = some ⟨ocI3, odI3, .func (PySem.W.ksFn "__init__" "BadRivals.__init__" (VX.iA ps_BadRivals) (VX.iB "these are no rivals, part: " ps_BadRivals) VX.iS (.ref T3) kVI3 dcI3 pmI3 anI3 (.ref cda3) ctI3 cc3), slI3⟩)
    (cI3 : PySem.W.codeIn K (.ref cda3) "BadRivals.__init__" = true)
    (lc3 : K.lookup cda3 = some ⟨ccl3, cdd3, .fields vs3, ccs3⟩)
    (hv3 : vs3[2]? = some (.str file3 tf3))
    (hf3 : ((P.main.file : Str) == file3) = true)
    (le3 : K.lookup cc3 = some ⟨cel3, cld3, .cell (some (.ref C3)), csl3⟩)
    (lT3 : K.lookup T3 = some oT3)
    (oT3' : oT3.data = .seq #[Value.none] nT3)
    (htop : (P.main.scope.names.lookup ("super" : Str)).isSome = false) :
    Txt P w K mg (fun i => match i with | 2 => f2 | 3 => f3 | 4 => f4 | 5 => f5 | 6 => f6 | 7 => f7 | 13 => f13 | 17 => f17 | 19 => f19 | 20 => f20 | 21 => f21 | 22 => f22 | 23 => f23 | 24 => f24 | 25 => f25 | 26 => f26 | 27 => f27 | 28 => f28 | 29 => f29 | 30 => f30 | 31 => f31 | 32 => f32 | 33 => f33 | 34 => f34 | 35 => f35 | 36 => f36 | 37 => f37 | _ => 0) (fun i => match i with | 3 => C3 | 5 => C5 | _ => 0) ∧ mg "law" = some (.ref f37) := ⟨{
  d_is_whole := ⟨⟨_, fun_mk (st := s_is_whole) l2 c2 k2, (fun_mk (st := s_is_whole) l2 c2 k2).binds (ps := ["thing"]) fun _ _ _ _ _ _ us hl => match us, hl with | [_], _ => rfl⟩⟩
  d_is_integer := ⟨⟨_, fun_mk (st := s_is_integer) l3 c3 k3, (fun_mk (st := s_is_integer) l3 c3 k3).binds (ps := ["thing", "low", "top"]) fun _ _ _ _ _ _ us hl => match us, hl with | [_, _, _], _ => rfl⟩⟩
  d_are_integers := ⟨⟨_, fun_mk (st := s_are_integers) l4 c4 k4, (fun_mk (st := s_are_integers) l4 c4 k4).binds (ps := ["things", "low", "top"]) fun _ _ _ _ _ _ us hl => match us, hl with | [_, _, _], _ => rfl⟩⟩
  d_is_ascending := ⟨⟨_, fun_mk (st := s_is_ascending) l5 c5 k5, (fun_mk (st := s_is_ascending) l5 c5 k5).binds (ps := ["things"]) fun _ _ _ _ _ _ us hl => match us, hl with | [_], _ => rfl⟩⟩
  d_check_limit := ⟨⟨_, fun_mk (st := s_check_limit) l6 c6 k6, (fun_mk (st := s_check_limit) l6 c6 k6).binds (ps := ["limit", "low", "most"]) fun _ _ _ _ _ _ us hl => match us, hl with | [_, _, _], _ => rfl⟩⟩
  d_Rivals___getitem__ := ⟨⟨_, fun_mk (st := s_Rivals___getitem__) l13 c13 k13, (fun_mk (st := s_Rivals___getitem__) l13 c13 k13).binds (ps := ["self", "one"]) fun _ _ _ _ _ _ us hl => match us, hl with | [_, _], _ => rfl⟩⟩
  d_check_rivals := ⟨⟨_, fun_mk (st := s_check_rivals) l17 c17 k17, (fun_mk (st := s_check_rivals) l17 c17 k17).binds (ps := ["rivals"]) fun _ _ _ _ _ _ us hl => match us, hl with | [_], _ => rfl⟩⟩
  d_is_pair := ⟨⟨_, fun_mk (st := s_is_pair) l19 c19 k19, (fun_mk (st := s_is_pair) l19 c19 k19).binds (ps := ["many", "pair"]) fun _ _ _ _ _ _ us hl => match us, hl with | [_, _], _ => rfl⟩⟩
  d_are_pairs := ⟨⟨_, fun_mk (st := s_are_pairs) l20 c20 k20, (fun_mk (st := s_are_pairs) l20 c20 k20).binds (ps := ["many", "pairs"]) fun _ _ _ _ _ _ us hl => match us, hl with | [_, _], _ => rfl⟩⟩
  d_all_partings := ⟨⟨_, fun_mk (st := s_all_partings) l24 c24 k24, (fun_mk (st := s_all_partings) l24 c24 k24).binds (ps := ["rivals"]) fun _ _ _ _ _ _ us hl => match us, hl with | [_], _ => rfl⟩⟩
  d_choices := ⟨⟨_, fun_mk (st := s_choices) l25 c25 k25, (fun_mk (st := s_choices) l25 c25 k25).binds (ps := ["limit", "sets"]) fun _ _ _ _ _ _ us hl => match us, hl with | [_, _], _ => rfl⟩⟩
  d_law_cell_at := ⟨⟨_, fun_mk (st := s_law_cell_at) l26 c26 k26, (fun_mk (st := s_law_cell_at) l26 c26 k26).binds (ps := ["script", "k"]) fun _ _ _ _ _ _ us hl => match us, hl with | [_, _], _ => rfl⟩⟩
  d_law_draw := ⟨⟨_, fun_mk (st := s_law_draw) l27 c27 k27, (fun_mk (st := s_law_draw) l27 c27 k27).binds (ps := ["cell", "k", "bound"]) fun _ _ _ _ _ _ us hl => match us, hl with | [_, _, _], _ => rfl⟩⟩
  d_law_number := ⟨⟨_, fun_mk (st := s_law_number) l28 c28 k28, (fun_mk (st := s_law_number) l28 c28 k28).binds (ps := ["cell", "k", "bound"]) fun _ _ _ _ _ _ us hl => match us, hl with | [_, _, _], _ => rfl⟩⟩
  d_law_next := ⟨⟨_, fun_mk (st := s_law_next) l29 c29 k29, (fun_mk (st := s_law_next) l29 c29 k29).binds (ps := ["draw", "bound"]) fun _ _ _ _ _ _ us hl => match us, hl with | [_, _], _ => rfl⟩⟩
  d_law_every := ⟨⟨_, fun_mk (st := s_law_every) l30 c30 k30, (fun_mk (st := s_law_every) l30 c30 k30).binds (ps := ["many"]) fun _ _ _ _ _ _ us hl => match us, hl with | [_], _ => rfl⟩⟩
  d_law_rivals := ⟨⟨_, fun_mk (st := s_law_rivals) l31 c31 k31, (fun_mk (st := s_law_rivals) l31 c31 k31).binds (ps := ["draw", "most"]) fun _ _ _ _ _ _ us hl => match us, hl with | [_, _], _ => rfl⟩⟩
  d_law_are := ⟨⟨_, fun_mk (st := s_law_are) l32 c32 k32, (fun_mk (st := s_law_are) l32 c32 k32).binds (ps := ["plain", "one", "other"]) fun _ _ _ _ _ _ us hl => match us, hl with | [_, _, _], _ => rfl⟩⟩
  d_law_tries := ⟨⟨_, fun_mk (st := s_law_tries) l33 c33 k33, (fun_mk (st := s_law_tries) l33 c33 k33).binds (ps := ["plain", "limit", "rooms"]) fun _ _ _ _ _ _ us hl => match us, hl with | [_, _, _], _ => rfl⟩⟩
  d_law_parts := ⟨⟨_, fun_mk (st := s_law_parts) l34 c34 k34, (fun_mk (st := s_law_parts) l34 c34 k34).binds (ps := ["plain", "sets", "at"]) fun _ _ _ _ _ _ us hl => match us, hl with | [_, _, _], _ => rfl⟩⟩
  d_law_drawn_in := ⟨⟨_, fun_mk (st := s_law_drawn_in) l35 c35 k35, (fun_mk (st := s_law_drawn_in) l35 c35 k35).binds (ps := ["many", "pairs", "one", "other"]) fun _ _ _ _ _ _ us hl => match us, hl with | [_, _, _, _], _ => rfl⟩⟩
  d_law_row := ⟨⟨_, fun_mk (st := s_law_row) l36 c36 k36, (fun_mk (st := s_law_row) l36 c36 k36).binds (ps := ["many", "pairs"]) fun _ _ _ _ _ _ us hl => match us, hl with | [_, _], _ => rfl⟩⟩
  d_partings := ⟨⟨_, fun_mk (st := s_partings) l21 c21 k21, (fun_mk (st := s_partings) l21 c21 k21).binds (ps := ["rivals"]) fun _ _ _ _ _ _ us hl => match us, hl with | [_], _ => rfl⟩⟩
  d_polynomial := ⟨⟨_, fun_mk (st := s_polynomial) l22 c22 k22, (fun_mk (st := s_polynomial) l22 c22 k22).binds (ps := ["rivals"]) fun _ _ _ _ _ _ us hl => match us, hl with | [_], _ => rfl⟩⟩
  d_ways := ⟨⟨_, fun_mk (st := s_ways) l23 c23 k23, (fun_mk (st := s_ways) l23 c23 k23).binds (ps := ["rivals", "limit"]) fun _ _ _ _ _ _ us hl => match us, hl with | [_, _], _ => rfl⟩⟩
  d_law := ⟨⟨_, fun_mk (st := s_law) l37 c37 k37, (fun_mk (st := s_law) l37 c37 k37).binds (ps := ["script"]) fun _ _ _ _ _ _ us hl => match us, hl with | [_], _ => rfl⟩⟩
  g_law_are := PySem.W.mg_of X G a32
  g_law_cell_at := PySem.W.mg_of X G a26
  g_law_draw := PySem.W.mg_of X G a27
  g_law_drawn_in := PySem.W.mg_of X G a35
  g_law_every := PySem.W.mg_of X G a30
  g_law_next := PySem.W.mg_of X G a29
  g_law_number := PySem.W.mg_of X G a28
  g_law_parts := PySem.W.mg_of X G a34
  g_law_rivals := PySem.W.mg_of X G a31
  g_law_row := PySem.W.mg_of X G a36
  g_law_tries := PySem.W.mg_of X G a33
  g_all_partings := PySem.W.mg_of X G a24
  g_are_integers := PySem.W.mg_of X G a4
  g_are_pairs := PySem.W.mg_of X G a20
  g_check_limit := PySem.W.mg_of X G a6
  g_check_rivals := PySem.W.mg_of X G a17
  g_choices := PySem.W.mg_of X G a25
  g_is_ascending := PySem.W.mg_of X G a5
  g_is_integer := PySem.W.mg_of X G a3
  g_is_pair := PySem.W.mg_of X G a19
  g_is_whole := PySem.W.mg_of X G a2
  g_partings := PySem.W.mg_of X G a21
  g_polynomial := PySem.W.mg_of X G a22
  g_ways := PySem.W.mg_of X G a23
  b_all := PySem.W.mg_none_of X G zb_all
  b_any := PySem.W.mg_none_of X G zb_any
  b_bool := PySem.W.mg_none_of X G zb_bool
  b_enumerate := PySem.W.mg_none_of X G zb_enumerate
  b_int := PySem.W.mg_none_of X G zb_int
  b_isinstance := PySem.W.mg_none_of X G zb_isinstance
  b_len := PySem.W.mg_none_of X G zb_len
  b_list := PySem.W.mg_none_of X G zb_list
  b_max := PySem.W.mg_none_of X G zb_max
  b_min := PySem.W.mg_none_of X G zb_min
  b_range := PySem.W.mg_none_of X G zb_range
  b_sorted := PySem.W.mg_none_of X G zb_sorted
  b_sum := PySem.W.mg_none_of X G zb_sum
  b_tuple := PySem.W.mg_none_of X G zb_tuple
  b_zip := PySem.W.mg_none_of X G zb_zip
  k_MOST_RIVALS := ⟨_, PySem.W.mg_of X G zk_MOST_RIVALS, ⟨_, rfl⟩⟩
  k_MOST_ROOMS := ⟨_, PySem.W.mg_of X G zk_MOST_ROOMS, ⟨_, rfl⟩⟩
  i_Rivals := by
    have FD : FunD K "__init__" "Rivals.__init__" (defArgs s_Rivals___init__) (defBody s_Rivals___init__) (defScope s_Rivals___init__) [.ref A7] [] f7 _ := ⟨⟨_, _, _, _, _, _, _, _, _, _, rfl, l7, c7, .inr ⟨(by intro z; cases z), T7, oT7, [.ref A7], nT7, rfl, lT7, dT7, .cons rfl .nil⟩, .inl rfl⟩, k7⟩
    have B := dfl_of FD (ps := ["self", "many", "pairs"]) 2 rfl (fun T kV doc pm an cdv ct us its l1 l2 => match us, its, l1, l2 with | [_, _], [_], _, _ => ⟨_, rfl, rfl⟩) (fun T kV doc pm an cdv ct us its l1 l2 => match us, its, l1, l2 with | [_, _, _], [_], _, _ => ⟨_, rfl, rfl⟩)
    exact ⟨_, FunV.ofD FD, ⟨mk5, a7, i7, kc5⟩, PySem.W.mg_of X G aC5, ⟨_, kbn_of B.2⟩, ⟨_, kbn_of0 B.2⟩⟩
  h_many := fun c hc => by
    rcases List.mem_cons.mp hc with rfl | hc
    · exact ⟨⟨pg5, hd5, po5, sa5⟩, n5_many⟩
    cases hc
  h_pairs := fun c hc => by
    rcases List.mem_cons.mp hc with rfl | hc
    · exact ⟨⟨pg5, hd5, po5, sa5⟩, n5_pairs⟩
    cases hc
  c_Rivals := PySem.W.mg_of X G aC5
  gt_Rivals := ⟨mt13, fi13, i13⟩
  is_Rivals := is_cls (fun p hp => by
    rcases List.mem_cons.mp hp with rfl | hp
    · exact kt5_NoneType
    rcases List.mem_cons.mp hp with rfl | hp
    · exact kt5_bool
    rcases List.mem_cons.mp hp with rfl | hp
    · exact kt5_int
    rcases List.mem_cons.mp hp with rfl | hp
    · exact kt5_str
    rcases List.mem_cons.mp hp with rfl | hp
    · exact kt5_tuple
    rcases List.mem_cons.mp hp with rfl | hp
    · exact kt5_list
    rcases List.mem_cons.mp hp with rfl | hp
    · exact kt5_dict
    cases hp) (fun p hp => by
    rcases List.mem_cons.mp hp with rfl | hp
    · exact ⟨⟨⟨pg5, hd5, po5, sa5⟩, ca5, spc, tkc, mo5, kk5_5⟩, kk5_5⟩
    cases hp)
  x_BadRivals := by
    obtain ⟨pl, hpl⟩ : ∃ pl, VX.MCall "these are no rivals, part: " ps_BadRivals pl := ⟨pure false, fun _ => by rfl⟩
    refine ⟨fI3, _, ⟨⟨nm3, qn3, N3, bs3, _, sn3, sub3, ab3, col3, dd3, m0_3, m1_3, m2_3, m3_3, m5_3, xL3, rfl⟩, sx3, np3, iC3, tI3, kx3, ex3, ty3, sv3, su3, mc3, opq, PySem.W.mg_none_of X G zsup, htop,
      ⟨_, _, _, _, _, _, _, _, _, _, _, _, _, _, _, _, _, _, _, _, _, _, _, pl, hpl, rfl, lI3, cI3, lc3, hv3, hf3, le3, by decide⟩⟩, fun s a u Y => ?_, PySem.W.mg_of X G aC3⟩
    refine BindsTo.of_looks fun M => ?_
    exact looks_items (k := _) Y lT3 oT3' (.of_pure rfl)
  }, PySem.W.mg_of X G a37⟩
def spLaw (K : PySem.W.Frag) : Sp := fun vs H Q _ => ∃ (a : Addr) (ns : List Int), vs = [.ref a] ∧ SqL K H a (ns.map V.int) ∧ ns.length ≤ 63 ∧ ∀ H', Q (.bl true) H'
set_option maxRecDepth 1000000 in
set_option maxHeartbeats 0 in
theorem law_true (ns : List Int) : m_law [.val (.scr ns)] = some (.ok (.val (.bl true)), [.val (.scr ns)]) := VM.law_true ns

end VG
namespace VG
open VL L2 PySem
theorem walk {l : PySem.W.OpenLaw} {q : Program} {loose : List Str} {XP : (Str → Option Value) → Heap → Prop} {YP : World → Heap → Prop} {d : DefRec} {K : Params → PySem.W.Frag} (hn : l.most = some 63) (hdf : d.params.defaults = [])
    (hY : ∀ (w : World) (h : Heap), YP w h → (K w.params).In h)
    (F : ∀ (w : World) (mg : Str → Option Value) (fa : Addr) (h : Heap), (K w.params).In h → h.Ns mainGlobals mg → mg d.name = some (.ref fa) →
      ∃ fd : FuncData, (∀ (s : Shared) (u : Value), BindsTo s fd ⟨[u], []⟩ [("script", u)]) ∧ ∀ base : Heap, (K w.params).In base → base.Ns mainGlobals mg → FnOk l.prog w (K w.params) mg base CX0 22 fa fd ["script"] (spLaw (K w.params))) :
    PySem.W.WalkO q loose XP YP l.row.toRowW d [] (fun f vs => PySem.call f vs) :=
  L2.walk_of (n := 63) (k := 22) (x := "script") (CX := fun _ => CX0) (sp := fun w => spLaw (K w.params)) hn (by decide) hdf ⟨rfl, by decide, by decide⟩ hY F (fun _ _ a ns hl _ hS => ⟨a, ns, rfl, hS, hl, fun _ => rfl⟩) fun _ _ _ _ _ z => z
theorem head_mk {l : PySem.W.OpenLaw} {w : World} {K : PySem.W.Frag} {mg : Str → Option Value} {fn cl : Nat → Addr} {fa : Addr} (TT : Txt l.prog w K mg fn cl ∧ mg "law" = some (.ref (fn 37))) (hfa : mg "law" = some (.ref fa)) :
    ∃ fd : FuncData, (∀ (s : Shared) (v : Value), BindsTo s fd ⟨[v], []⟩ [("script", v)]) ∧ ∀ base : Heap, K.In base → base.Ns mainGlobals mg → FnOk l.prog w K mg base CX0 22 fa fd ["script"] (spLaw K) := by
  obtain ⟨T, hl⟩ := TT
  have e := hfa.symm.trans hl
  cases e
  obtain ⟨fd, F, _⟩ := T.d_law.fu
  refine ⟨fd, fun s v => ?_, fun base _ _ => (okF_law (base := base) T F).imp fun vs H Q E h => ?_⟩
  · obtain ⟨oc, od, kV, doc, pm, an, cdv, ct, osl, e, _, _⟩ := F.ex
    subst e
    exact .of_eq rfl
  · obtain ⟨a, ns, rfl, hS, _, kQ⟩ := h
    exact script_in (law_true ns) hS kQ
end VG

open PySem PySem.W PyProof.Rows in
set_option maxRecDepth 100000 in
set_option maxHeartbeats 0 in
theorem PySem.Challenge.cw_registerrooms_k44_whole_counting_holds : PySem.Challenge.rw_registerrooms_k44_whole_counting.Holds := by
  w_on; o_law; k_head; (case hw => w_witness2)
  k_fill
  refine VG.walk (l := PySem.Challenge.rw_registerrooms_k44_whole_counting) rfl rfl (fun w h Y => PySem.W.kIn_of Y) ?F
  case F =>
    intro w mg fa h KX G hmg
    refine' VG.head_mk (VG.all_txt KX G ?a2 ?a3 ?a4 ?a5 ?a6 ?a17 ?a19 ?a20 ?a24 ?a25 ?a26 ?a27 ?a28 ?a29 ?a30 ?a31 ?a32 ?a33 ?a34 ?a35 ?a36 ?a21 ?a22 ?a23 ?a37 ?aC5 ?a7 ?aC3 ?mt13 ?l2 ?c2 ?k2 ?l3 ?c3 ?k3 ?l4 ?c4 ?k4 ?l5 ?c5 ?k5 ?l6 ?c6 ?k6 ?l13 ?c13 ?k13 ?l17 ?c17 ?k17 ?l19 ?c19 ?k19 ?l20 ?c20 ?k20 ?l24 ?c24 ?k24 ?l25 ?c25 ?k25 ?l26 ?c26 ?k26 ?l27 ?c27 ?k27 ?l28 ?c28 ?k28 ?l29 ?c29 ?k29 ?l30 ?c30 ?k30 ?l31 ?c31 ?k31 ?l32 ?c32 ?k32 ?l33 ?c33 ?k33 ?l34 ?c34 ?k34 ?l35 ?c35 ?k35 ?l36 ?c36 ?k36 ?l21 ?c21 ?k21 ?l22 ?c22 ?k22 ?l23 ?c23 ?k23 ?l37 ?c37 ?k37 ?zb_all ?zb_any ?zb_bool ?zb_enumerate ?zb_int ?zb_isinstance ?zb_len ?zb_list ?zb_max ?zb_min ?zb_range ?zb_sorted ?zb_sum ?zb_tuple ?zb_zip ?zk_MOST_RIVALS ?zk_MOST_ROOMS ?i7 ?l7 ?c7 ?k7 ?lT7 ?dT7 ?lA7 ?dA7 ?cA7 ?mk5 ?kc5 ?pg5 ?hd5 ?po5 ?sa5 ?n5_many ?n5_pairs ?fi13 ?i13 ?kt5_NoneType ?kt5_bool ?kt5_int ?kt5_str ?kt5_tuple ?kt5_list ?kt5_dict ?ca5 ?spc ?tkc ?mo5 ?kk5_5 ?np3 ?ex3 ?xL3 ?sx3 ?iC3 ?tI3 ?kx3 ?ty3 ?sv3 ?su3 ?mc3 ?opq ?zsup ?lI3 ?cI3 ?lc3 ?hv3 ?hf3 ?le3 ?lT3 ?oT3' ?htop) hmg
    (case a2 => first | k_is | rfl | decide +kernel | k_exc | kernel_rfl | (repeat (first | exact True.intro | refine ⟨⟨_, _, rfl, rfl⟩, ?_⟩)))
    (case a3 => first | k_is | rfl | decide +kernel | k_exc | kernel_rfl | (repeat (first | exact True.intro | refine ⟨⟨_, _, rfl, rfl⟩, ?_⟩)))
    (case a4 => first | k_is | rfl | decide +kernel | k_exc | kernel_rfl | (repeat (first | exact True.intro | refine ⟨⟨_, _, rfl, rfl⟩, ?_⟩)))
    (case a5 => first | k_is | rfl | decide +kernel | k_exc | kernel_rfl | (repeat (first | exact True.intro | refine ⟨⟨_, _, rfl, rfl⟩, ?_⟩)))
    (case a6 => first | k_is | rfl | decide +kernel | k_exc | kernel_rfl | (repeat (first | exact True.intro | refine ⟨⟨_, _, rfl, rfl⟩, ?_⟩)))
    (case a17 => first | k_is | rfl | decide +kernel | k_exc | kernel_rfl | (repeat (first | exact True.intro | refine ⟨⟨_, _, rfl, rfl⟩, ?_⟩)))
    (case a19 => first | k_is | rfl | decide +kernel | k_exc | kernel_rfl | (repeat (first | exact True.intro | refine ⟨⟨_, _, rfl, rfl⟩, ?_⟩)))
    (case a20 => first | k_is | rfl | decide +kernel | k_exc | kernel_rfl | (repeat (first | exact True.intro | refine ⟨⟨_, _, rfl, rfl⟩, ?_⟩)))
    (case a24 => first | k_is | rfl | decide +kernel | k_exc | kernel_rfl | (repeat (first | exact True.intro | refine ⟨⟨_, _, rfl, rfl⟩, ?_⟩)))
    (case a25 => first | k_is | rfl | decide +kernel | k_exc | kernel_rfl | (repeat (first | exact True.intro | refine ⟨⟨_, _, rfl, rfl⟩, ?_⟩)))
    (case a26 => first | k_is | rfl | decide +kernel | k_exc | kernel_rfl | (repeat (first | exact True.intro | refine ⟨⟨_, _, rfl, rfl⟩, ?_⟩)))
    (case a27 => first | k_is | rfl | decide +kernel | k_exc | kernel_rfl | (repeat (first | exact True.intro | refine ⟨⟨_, _, rfl, rfl⟩, ?_⟩)))
    (case a28 => first | k_is | rfl | decide +kernel | k_exc | kernel_rfl | (repeat (first | exact True.intro | refine ⟨⟨_, _, rfl, rfl⟩, ?_⟩)))
    (case a29 => first | k_is | rfl | decide +kernel | k_exc | kernel_rfl | (repeat (first | exact True.intro | refine ⟨⟨_, _, rfl, rfl⟩, ?_⟩)))
    (case a30 => first | k_is | rfl | decide +kernel | k_exc | kernel_rfl | (repeat (first | exact True.intro | refine ⟨⟨_, _, rfl, rfl⟩, ?_⟩)))
    (case a31 => first | k_is | rfl | decide +kernel | k_exc | kernel_rfl | (repeat (first | exact True.intro | refine ⟨⟨_, _, rfl, rfl⟩, ?_⟩)))
    (case a32 => first | k_is | rfl | decide +kernel | k_exc | kernel_rfl | (repeat (first | exact True.intro | refine ⟨⟨_, _, rfl, rfl⟩, ?_⟩)))
    (case a33 => first | k_is | rfl | decide +kernel | k_exc | kernel_rfl | (repeat (first | exact True.intro | refine ⟨⟨_, _, rfl, rfl⟩, ?_⟩)))
    (case a34 => first | k_is | rfl | decide +kernel | k_exc | kernel_rfl | (repeat (first | exact True.intro | refine ⟨⟨_, _, rfl, rfl⟩, ?_⟩)))
    (case a35 => first | k_is | rfl | decide +kernel | k_exc | kernel_rfl | (repeat (first | exact True.intro | refine ⟨⟨_, _, rfl, rfl⟩, ?_⟩)))
    (case a36 => first | k_is | rfl | decide +kernel | k_exc | kernel_rfl | (repeat (first | exact True.intro | refine ⟨⟨_, _, rfl, rfl⟩, ?_⟩)))
    (case a21 => first | k_is | rfl | decide +kernel | k_exc | kernel_rfl | (repeat (first | exact True.intro | refine ⟨⟨_, _, rfl, rfl⟩, ?_⟩)))
    (case a22 => first | k_is | rfl | decide +kernel | k_exc | kernel_rfl | (repeat (first | exact True.intro | refine ⟨⟨_, _, rfl, rfl⟩, ?_⟩)))
    (case a23 => first | k_is | rfl | decide +kernel | k_exc | kernel_rfl | (repeat (first | exact True.intro | refine ⟨⟨_, _, rfl, rfl⟩, ?_⟩)))
    (case a37 => first | k_is | rfl | decide +kernel | k_exc | kernel_rfl | (repeat (first | exact True.intro | refine ⟨⟨_, _, rfl, rfl⟩, ?_⟩)))
    (case aC5 => first | k_is | rfl | decide +kernel | k_exc | kernel_rfl | (repeat (first | exact True.intro | refine ⟨⟨_, _, rfl, rfl⟩, ?_⟩)))
    (case a7 => first | k_is | rfl | decide +kernel | k_exc | kernel_rfl | (repeat (first | exact True.intro | refine ⟨⟨_, _, rfl, rfl⟩, ?_⟩)))
    (case aC3 => first | k_is | rfl | decide +kernel | k_exc | kernel_rfl | (repeat (first | exact True.intro | refine ⟨⟨_, _, rfl, rfl⟩, ?_⟩)))
    (case mt13 => first | k_is | rfl | decide +kernel | k_exc | kernel_rfl | (repeat (first | exact True.intro | refine ⟨⟨_, _, rfl, rfl⟩, ?_⟩)))
    (case l2 => first | k_is | rfl | decide +kernel | k_exc | kernel_rfl | (repeat (first | exact True.intro | refine ⟨⟨_, _, rfl, rfl⟩, ?_⟩)))
    (case c2 => first | k_is | rfl | decide +kernel | k_exc | kernel_rfl | (repeat (first | exact True.intro | refine ⟨⟨_, _, rfl, rfl⟩, ?_⟩)))
    (case k2 => first | k_is | rfl | decide +kernel | k_exc | kernel_rfl | (repeat (first | exact True.intro | refine ⟨⟨_, _, rfl, rfl⟩, ?_⟩)))
    (case l3 => first | k_is | rfl | decide +kernel | k_exc | kernel_rfl | (repeat (first | exact True.intro | refine ⟨⟨_, _, rfl, rfl⟩, ?_⟩)))
    (case c3 => first | k_is | rfl | decide +kernel | k_exc | kernel_rfl | (repeat (first | exact True.intro | refine ⟨⟨_, _, rfl, rfl⟩, ?_⟩)))
    (case k3 => first | k_is | rfl | decide +kernel | k_exc | kernel_rfl | (repeat (first | exact True.intro | refine ⟨⟨_, _, rfl, rfl⟩, ?_⟩)))
    (case l4 => first | k_is | rfl | decide +kernel | k_exc | kernel_rfl | (repeat (first | exact True.intro | refine ⟨⟨_, _, rfl, rfl⟩, ?_⟩)))
    (case c4 => first | k_is | rfl | decide +kernel | k_exc | kernel_rfl | (repeat (first | exact True.intro | refine ⟨⟨_, _, rfl, rfl⟩, ?_⟩)))
    (case k4 => first | k_is | rfl | decide +kernel | k_exc | kernel_rfl | (repeat (first | exact True.intro | refine ⟨⟨_, _, rfl, rfl⟩, ?_⟩)))
    (case l5 => first | k_is | rfl | decide +kernel | k_exc | kernel_rfl | (repeat (first | exact True.intro | refine ⟨⟨_, _, rfl, rfl⟩, ?_⟩)))
    (case c5 => first | k_is | rfl | decide +kernel | k_exc | kernel_rfl | (repeat (first | exact True.intro | refine ⟨⟨_, _, rfl, rfl⟩, ?_⟩)))
    (case k5 => first | k_is | rfl | decide +kernel | k_exc | kernel_rfl | (repeat (first | exact True.intro | refine ⟨⟨_, _, rfl, rfl⟩, ?_⟩)))
    (case l6 => first | k_is | rfl | decide +kernel | k_exc | kernel_rfl | (repeat (first | exact True.intro | refine ⟨⟨_, _, rfl, rfl⟩, ?_⟩)))
    (case c6 => first | k_is | rfl | decide +kernel | k_exc | kernel_rfl | (repeat (first | exact True.intro | refine ⟨⟨_, _, rfl, rfl⟩, ?_⟩)))
    (case k6 => first | k_is | rfl | decide +kernel | k_exc | kernel_rfl | (repeat (first | exact True.intro | refine ⟨⟨_, _, rfl, rfl⟩, ?_⟩)))
    (case l13 => first | k_is | rfl | decide +kernel | k_exc | kernel_rfl | (repeat (first | exact True.intro | refine ⟨⟨_, _, rfl, rfl⟩, ?_⟩)))
    (case c13 => first | k_is | rfl | decide +kernel | k_exc | kernel_rfl | (repeat (first | exact True.intro | refine ⟨⟨_, _, rfl, rfl⟩, ?_⟩)))
    (case k13 => first | k_is | rfl | decide +kernel | k_exc | kernel_rfl | (repeat (first | exact True.intro | refine ⟨⟨_, _, rfl, rfl⟩, ?_⟩)))
    (case l17 => first | k_is | rfl | decide +kernel | k_exc | kernel_rfl | (repeat (first | exact True.intro | refine ⟨⟨_, _, rfl, rfl⟩, ?_⟩)))
    (case c17 => first | k_is | rfl | decide +kernel | k_exc | kernel_rfl | (repeat (first | exact True.intro | refine ⟨⟨_, _, rfl, rfl⟩, ?_⟩)))
    (case k17 => first | k_is | rfl | decide +kernel | k_exc | kernel_rfl | (repeat (first | exact True.intro | refine ⟨⟨_, _, rfl, rfl⟩, ?_⟩)))
    (case l19 => first | k_is | rfl | decide +kernel | k_exc | kernel_rfl | (repeat (first | exact True.intro | refine ⟨⟨_, _, rfl, rfl⟩, ?_⟩)))
    (case c19 => first | k_is | rfl | decide +kernel | k_exc | kernel_rfl | (repeat (first | exact True.intro | refine ⟨⟨_, _, rfl, rfl⟩, ?_⟩)))
    (case k19 => first | k_is | rfl | decide +kernel | k_exc | kernel_rfl | (repeat (first | exact True.intro | refine ⟨⟨_, _, rfl, rfl⟩, ?_⟩)))
    (case l20 => first | k_is | rfl | decide +kernel | k_exc | kernel_rfl | (repeat (first | exact True.intro | refine ⟨⟨_, _, rfl, rfl⟩, ?_⟩)))
    (case c20 => first | k_is | rfl | decide +kernel | k_exc | kernel_rfl | (repeat (first | exact True.intro | refine ⟨⟨_, _, rfl, rfl⟩, ?_⟩)))
    (case k20 => first | k_is | rfl | decide +kernel | k_exc | kernel_rfl | (repeat (first | exact True.intro | refine ⟨⟨_, _, rfl, rfl⟩, ?_⟩)))
    (case l24 => first | k_is | rfl | decide +kernel | k_exc | kernel_rfl | (repeat (first | exact True.intro | refine ⟨⟨_, _, rfl, rfl⟩, ?_⟩)))
    (case c24 => first | k_is | rfl | decide +kernel | k_exc | kernel_rfl | (repeat (first | exact True.intro | refine ⟨⟨_, _, rfl, rfl⟩, ?_⟩)))
    (case k24 => first | k_is | rfl | decide +kernel | k_exc | kernel_rfl | (repeat (first | exact True.intro | refine ⟨⟨_, _, rfl, rfl⟩, ?_⟩)))
    (case l25 => first | k_is | rfl | decide +kernel | k_exc | kernel_rfl | (repeat (first | exact True.intro | refine ⟨⟨_, _, rfl, rfl⟩, ?_⟩)))
    (case c25 => first | k_is | rfl | decide +kernel | k_exc | kernel_rfl | (repeat (first | exact True.intro | refine ⟨⟨_, _, rfl, rfl⟩, ?_⟩)))
    (case k25 => first | k_is | rfl | decide +kernel | k_exc | kernel_rfl | (repeat (first | exact True.intro | refine ⟨⟨_, _, rfl, rfl⟩, ?_⟩)))
    (case l26 => first | k_is | rfl | decide +kernel | k_exc | kernel_rfl | (repeat (first | exact True.intro | refine ⟨⟨_, _, rfl, rfl⟩, ?_⟩)))
    (case c26 => first | k_is | rfl | decide +kernel | k_exc | kernel_rfl | (repeat (first | exact True.intro | refine ⟨⟨_, _, rfl, rfl⟩, ?_⟩)))
    (case k26 => first | k_is | rfl | decide +kernel | k_exc | kernel_rfl | (repeat (first | exact True.intro | refine ⟨⟨_, _, rfl, rfl⟩, ?_⟩)))
    (case l27 => first | k_is | rfl | decide +kernel | k_exc | kernel_rfl | (repeat (first | exact True.intro | refine ⟨⟨_, _, rfl, rfl⟩, ?_⟩)))
    (case c27 => first | k_is | rfl | decide +kernel | k_exc | kernel_rfl | (repeat (first | exact True.intro | refine ⟨⟨_, _, rfl, rfl⟩, ?_⟩)))
    (case k27 => first | k_is | rfl | decide +kernel | k_exc | kernel_rfl | (repeat (first | exact True.intro | refine ⟨⟨_, _, rfl, rfl⟩, ?_⟩)))
    (case l28 => first | k_is | rfl | decide +kernel | k_exc | kernel_rfl | (repeat (first | exact True.intro | refine ⟨⟨_, _, rfl, rfl⟩, ?_⟩)))
    (case c28 => first | k_is | rfl | decide +kernel | k_exc | kernel_rfl | (repeat (first | exact True.intro | refine ⟨⟨_, _, rfl, rfl⟩, ?_⟩)))
    (case k28 => first | k_is | rfl | decide +kernel | k_exc | kernel_rfl | (repeat (first | exact True.intro | refine ⟨⟨_, _, rfl, rfl⟩, ?_⟩)))
    (case l29 => first | k_is | rfl | decide +kernel | k_exc | kernel_rfl | (repeat (first | exact True.intro | refine ⟨⟨_, _, rfl, rfl⟩, ?_⟩)))
    (case c29 => first | k_is | rfl | decide +kernel | k_exc | kernel_rfl | (repeat (first | exact True.intro | refine ⟨⟨_, _, rfl, rfl⟩, ?_⟩)))
    (case k29 => first | k_is | rfl | decide +kernel | k_exc | kernel_rfl | (repeat (first | exact True.intro | refine ⟨⟨_, _, rfl, rfl⟩, ?_⟩)))
    (case l30 => first | k_is | rfl | decide +kernel | k_exc | kernel_rfl | (repeat (first | exact True.intro | refine ⟨⟨_, _, rfl, rfl⟩, ?_⟩)))
    (case c30 => first | k_is | rfl | decide +kernel | k_exc | kernel_rfl | (repeat (first | exact True.intro | refine ⟨⟨_, _, rfl, rfl⟩, ?_⟩)))
    (case k30 => first | k_is | rfl | decide +kernel | k_exc | kernel_rfl | (repeat (first | exact True.intro | refine ⟨⟨_, _, rfl, rfl⟩, ?_⟩)))
    (case l31 => first | k_is | rfl | decide +kernel | k_exc | kernel_rfl | (repeat (first | exact True.intro | refine ⟨⟨_, _, rfl, rfl⟩, ?_⟩)))
    (case c31 => first | k_is | rfl | decide +kernel | k_exc | kernel_rfl | (repeat (first | exact True.intro | refine ⟨⟨_, _, rfl, rfl⟩, ?_⟩)))
    (case k31 => first | k_is | rfl | decide +kernel | k_exc | kernel_rfl | (repeat (first | exact True.intro | refine ⟨⟨_, _, rfl, rfl⟩, ?_⟩)))
    (case l32 => first | k_is | rfl | decide +kernel | k_exc | kernel_rfl | (repeat (first | exact True.intro | refine ⟨⟨_, _, rfl, rfl⟩, ?_⟩)))
    (case c32 => first | k_is | rfl | decide +kernel | k_exc | kernel_rfl | (repeat (first | exact True.intro | refine ⟨⟨_, _, rfl, rfl⟩, ?_⟩)))
    (case k32 => first | k_is | rfl | decide +kernel | k_exc | kernel_rfl | (repeat (first | exact True.intro | refine ⟨⟨_, _, rfl, rfl⟩, ?_⟩)))
    (case l33 => first | k_is | rfl | decide +kernel | k_exc | kernel_rfl | (repeat (first | exact True.intro | refine ⟨⟨_, _, rfl, rfl⟩, ?_⟩)))
    (case c33 => first | k_is | rfl | decide +kernel | k_exc | kernel_rfl | (repeat (first | exact True.intro | refine ⟨⟨_, _, rfl, rfl⟩, ?_⟩)))
    (case k33 => first | k_is | rfl | decide +kernel | k_exc | kernel_rfl | (repeat (first | exact True.intro | refine ⟨⟨_, _, rfl, rfl⟩, ?_⟩)))
    (case l34 => first | k_is | rfl | decide +kernel | k_exc | kernel_rfl | (repeat (first | exact True.intro | refine ⟨⟨_, _, rfl, rfl⟩, ?_⟩)))
    (case c34 => first | k_is | rfl | decide +kernel | k_exc | kernel_rfl | (repeat (first | exact True.intro | refine ⟨⟨_, _, rfl, rfl⟩, ?_⟩)))
    (case k34 => first | k_is | rfl | decide +kernel | k_exc | kernel_rfl | (repeat (first | exact True.intro | refine ⟨⟨_, _, rfl, rfl⟩, ?_⟩)))
    (case l35 => first | k_is | rfl | decide +kernel | k_exc | kernel_rfl | (repeat (first | exact True.intro | refine ⟨⟨_, _, rfl, rfl⟩, ?_⟩)))
    (case c35 => first | k_is | rfl | decide +kernel | k_exc | kernel_rfl | (repeat (first | exact True.intro | refine ⟨⟨_, _, rfl, rfl⟩, ?_⟩)))
    (case k35 => first | k_is | rfl | decide +kernel | k_exc | kernel_rfl | (repeat (first | exact True.intro | refine ⟨⟨_, _, rfl, rfl⟩, ?_⟩)))
    (case l36 => first | k_is | rfl | decide +kernel | k_exc | kernel_rfl | (repeat (first | exact True.intro | refine ⟨⟨_, _, rfl, rfl⟩, ?_⟩)))
    (case c36 => first | k_is | rfl | decide +kernel | k_exc | kernel_rfl | (repeat (first | exact True.intro | refine ⟨⟨_, _, rfl, rfl⟩, ?_⟩)))
    (case k36 => first | k_is | rfl | decide +kernel | k_exc | kernel_rfl | (repeat (first | exact True.intro | refine ⟨⟨_, _, rfl, rfl⟩, ?_⟩)))
    (case l21 => first | k_is | rfl | decide +kernel | k_exc | kernel_rfl | (repeat (first | exact True.intro | refine ⟨⟨_, _, rfl, rfl⟩, ?_⟩)))
    (case c21 => first | k_is | rfl | decide +kernel | k_exc | kernel_rfl | (repeat (first | exact True.intro | refine ⟨⟨_, _, rfl, rfl⟩, ?_⟩)))
    (case k21 => first | k_is | rfl | decide +kernel | k_exc | kernel_rfl | (repeat (first | exact True.intro | refine ⟨⟨_, _, rfl, rfl⟩, ?_⟩)))
    (case l22 => first | k_is | rfl | decide +kernel | k_exc | kernel_rfl | (repeat (first | exact True.intro | refine ⟨⟨_, _, rfl, rfl⟩, ?_⟩)))
    (case c22 => first | k_is | rfl | decide +kernel | k_exc | kernel_rfl | (repeat (first | exact True.intro | refine ⟨⟨_, _, rfl, rfl⟩, ?_⟩)))
    (case k22 => first | k_is | rfl | decide +kernel | k_exc | kernel_rfl | (repeat (first | exact True.intro | refine ⟨⟨_, _, rfl, rfl⟩, ?_⟩)))
    (case l23 => first | k_is | rfl | decide +kernel | k_exc | kernel_rfl | (repeat (first | exact True.intro | refine ⟨⟨_, _, rfl, rfl⟩, ?_⟩)))
    (case c23 => first | k_is | rfl | decide +kernel | k_exc | kernel_rfl | (repeat (first | exact True.intro | refine ⟨⟨_, _, rfl, rfl⟩, ?_⟩)))
    (case k23 => first | k_is | rfl | decide +kernel | k_exc | kernel_rfl | (repeat (first | exact True.intro | refine ⟨⟨_, _, rfl, rfl⟩, ?_⟩)))
    (case l37 => first | k_is | rfl | decide +kernel | k_exc | kernel_rfl | (repeat (first | exact True.intro | refine ⟨⟨_, _, rfl, rfl⟩, ?_⟩)))
    (case c37 => first | k_is | rfl | decide +kernel | k_exc | kernel_rfl | (repeat (first | exact True.intro | refine ⟨⟨_, _, rfl, rfl⟩, ?_⟩)))
    (case k37 => first | k_is | rfl | decide +kernel | k_exc | kernel_rfl | (repeat (first | exact True.intro | refine ⟨⟨_, _, rfl, rfl⟩, ?_⟩)))
    (case zb_all => first | k_is | rfl | decide +kernel | k_exc | kernel_rfl | (repeat (first | exact True.intro | refine ⟨⟨_, _, rfl, rfl⟩, ?_⟩)))
    (case zb_any => first | k_is | rfl | decide +kernel | k_exc | kernel_rfl | (repeat (first | exact True.intro | refine ⟨⟨_, _, rfl, rfl⟩, ?_⟩)))
    (case zb_bool => first | k_is | rfl | decide +kernel | k_exc | kernel_rfl | (repeat (first | exact True.intro | refine ⟨⟨_, _, rfl, rfl⟩, ?_⟩)))
    (case zb_enumerate => first | k_is | rfl | decide +kernel | k_exc | kernel_rfl | (repeat (first | exact True.intro | refine ⟨⟨_, _, rfl, rfl⟩, ?_⟩)))
    (case zb_int => first | k_is | rfl | decide +kernel | k_exc | kernel_rfl | (repeat (first | exact True.intro | refine ⟨⟨_, _, rfl, rfl⟩, ?_⟩)))
    (case zb_isinstance => first | k_is | rfl | decide +kernel | k_exc | kernel_rfl | (repeat (first | exact True.intro | refine ⟨⟨_, _, rfl, rfl⟩, ?_⟩)))
    (case zb_len => first | k_is | rfl | decide +kernel | k_exc | kernel_rfl | (repeat (first | exact True.intro | refine ⟨⟨_, _, rfl, rfl⟩, ?_⟩)))
    (case zb_list => first | k_is | rfl | decide +kernel | k_exc | kernel_rfl | (repeat (first | exact True.intro | refine ⟨⟨_, _, rfl, rfl⟩, ?_⟩)))
    (case zb_max => first | k_is | rfl | decide +kernel | k_exc | kernel_rfl | (repeat (first | exact True.intro | refine ⟨⟨_, _, rfl, rfl⟩, ?_⟩)))
    (case zb_min => first | k_is | rfl | decide +kernel | k_exc | kernel_rfl | (repeat (first | exact True.intro | refine ⟨⟨_, _, rfl, rfl⟩, ?_⟩)))
    (case zb_range => first | k_is | rfl | decide +kernel | k_exc | kernel_rfl | (repeat (first | exact True.intro | refine ⟨⟨_, _, rfl, rfl⟩, ?_⟩)))
    (case zb_sorted => first | k_is | rfl | decide +kernel | k_exc | kernel_rfl | (repeat (first | exact True.intro | refine ⟨⟨_, _, rfl, rfl⟩, ?_⟩)))
    (case zb_sum => first | k_is | rfl | decide +kernel | k_exc | kernel_rfl | (repeat (first | exact True.intro | refine ⟨⟨_, _, rfl, rfl⟩, ?_⟩)))
    (case zb_tuple => first | k_is | rfl | decide +kernel | k_exc | kernel_rfl | (repeat (first | exact True.intro | refine ⟨⟨_, _, rfl, rfl⟩, ?_⟩)))
    (case zb_zip => first | k_is | rfl | decide +kernel | k_exc | kernel_rfl | (repeat (first | exact True.intro | refine ⟨⟨_, _, rfl, rfl⟩, ?_⟩)))
    (case zk_MOST_RIVALS => first | k_is | rfl | decide +kernel | k_exc | kernel_rfl | (repeat (first | exact True.intro | refine ⟨⟨_, _, rfl, rfl⟩, ?_⟩)))
    (case zk_MOST_ROOMS => first | k_is | rfl | decide +kernel | k_exc | kernel_rfl | (repeat (first | exact True.intro | refine ⟨⟨_, _, rfl, rfl⟩, ?_⟩)))
    (case i7 => first | k_is | rfl | decide +kernel | k_exc | kernel_rfl | (repeat (first | exact True.intro | refine ⟨⟨_, _, rfl, rfl⟩, ?_⟩)))
    (case l7 => first | k_is | rfl | decide +kernel | k_exc | kernel_rfl | (repeat (first | exact True.intro | refine ⟨⟨_, _, rfl, rfl⟩, ?_⟩)))
    (case c7 => first | k_is | rfl | decide +kernel | k_exc | kernel_rfl | (repeat (first | exact True.intro | refine ⟨⟨_, _, rfl, rfl⟩, ?_⟩)))
    (case k7 => first | k_is | rfl | decide +kernel | k_exc | kernel_rfl | (repeat (first | exact True.intro | refine ⟨⟨_, _, rfl, rfl⟩, ?_⟩)))
    (case lT7 => first | k_is | rfl | decide +kernel | k_exc | kernel_rfl | (repeat (first | exact True.intro | refine ⟨⟨_, _, rfl, rfl⟩, ?_⟩)))
    (case dT7 => first | k_is | rfl | decide +kernel | k_exc | kernel_rfl | (repeat (first | exact True.intro | refine ⟨⟨_, _, rfl, rfl⟩, ?_⟩)))
    (case lA7 => first | k_is | rfl | decide +kernel | k_exc | kernel_rfl | (repeat (first | exact True.intro | refine ⟨⟨_, _, rfl, rfl⟩, ?_⟩)))
    (case dA7 => first | k_is | rfl | decide +kernel | k_exc | kernel_rfl | (repeat (first | exact True.intro | refine ⟨⟨_, _, rfl, rfl⟩, ?_⟩)))
    (case cA7 => first | k_is | rfl | decide +kernel | k_exc | kernel_rfl | (repeat (first | exact True.intro | refine ⟨⟨_, _, rfl, rfl⟩, ?_⟩)))
    (case mk5 => first | k_is | rfl | decide +kernel | k_exc | kernel_rfl | (repeat (first | exact True.intro | refine ⟨⟨_, _, rfl, rfl⟩, ?_⟩)))
    (case kc5 => first | k_is | rfl | decide +kernel | k_exc | kernel_rfl | (repeat (first | exact True.intro | refine ⟨⟨_, _, rfl, rfl⟩, ?_⟩)))
    (case pg5 => first | k_is | rfl | decide +kernel | k_exc | kernel_rfl | (repeat (first | exact True.intro | refine ⟨⟨_, _, rfl, rfl⟩, ?_⟩)))
    (case hd5 => first | k_is | rfl | decide +kernel | k_exc | kernel_rfl | (repeat (first | exact True.intro | refine ⟨⟨_, _, rfl, rfl⟩, ?_⟩)))
    (case po5 => first | k_is | rfl | decide +kernel | k_exc | kernel_rfl | (repeat (first | exact True.intro | refine ⟨⟨_, _, rfl, rfl⟩, ?_⟩)))
    (case sa5 => first | k_is | rfl | decide +kernel | k_exc | kernel_rfl | (repeat (first | exact True.intro | refine ⟨⟨_, _, rfl, rfl⟩, ?_⟩)))
    (case n5_many => first | k_is | rfl | decide +kernel | k_exc | kernel_rfl | (repeat (first | exact True.intro | refine ⟨⟨_, _, rfl, rfl⟩, ?_⟩)))
    (case n5_pairs => first | k_is | rfl | decide +kernel | k_exc | kernel_rfl | (repeat (first | exact True.intro | refine ⟨⟨_, _, rfl, rfl⟩, ?_⟩)))
    (case fi13 => first | k_is | rfl | decide +kernel | k_exc | kernel_rfl | (repeat (first | exact True.intro | refine ⟨⟨_, _, rfl, rfl⟩, ?_⟩)))
    (case i13 => first | k_is | rfl | decide +kernel | k_exc | kernel_rfl | (repeat (first | exact True.intro | refine ⟨⟨_, _, rfl, rfl⟩, ?_⟩)))
    (case kt5_NoneType => first | k_is | rfl | decide +kernel | k_exc | kernel_rfl | (repeat (first | exact True.intro | refine ⟨⟨_, _, rfl, rfl⟩, ?_⟩)))
    (case kt5_bool => first | k_is | rfl | decide +kernel | k_exc | kernel_rfl | (repeat (first | exact True.intro | refine ⟨⟨_, _, rfl, rfl⟩, ?_⟩)))
    (case kt5_int => first | k_is | rfl | decide +kernel | k_exc | kernel_rfl | (repeat (first | exact True.intro | refine ⟨⟨_, _, rfl, rfl⟩, ?_⟩)))
    (case kt5_str => first | k_is | rfl | decide +kernel | k_exc | kernel_rfl | (repeat (first | exact True.intro | refine ⟨⟨_, _, rfl, rfl⟩, ?_⟩)))
    (case kt5_tuple => first | k_is | rfl | decide +kernel | k_exc | kernel_rfl | (repeat (first | exact True.intro | refine ⟨⟨_, _, rfl, rfl⟩, ?_⟩)))
    (case kt5_list => first | k_is | rfl | decide +kernel | k_exc | kernel_rfl | (repeat (first | exact True.intro | refine ⟨⟨_, _, rfl, rfl⟩, ?_⟩)))
    (case kt5_dict => first | k_is | rfl | decide +kernel | k_exc | kernel_rfl | (repeat (first | exact True.intro | refine ⟨⟨_, _, rfl, rfl⟩, ?_⟩)))
    (case ca5 => first | k_is | rfl | decide +kernel | k_exc | kernel_rfl | (repeat (first | exact True.intro | refine ⟨⟨_, _, rfl, rfl⟩, ?_⟩)))
    (case spc => first | k_is | rfl | decide +kernel | k_exc | kernel_rfl | (repeat (first | exact True.intro | refine ⟨⟨_, _, rfl, rfl⟩, ?_⟩)))
    (case tkc => first | k_is | rfl | decide +kernel | k_exc | kernel_rfl | (repeat (first | exact True.intro | refine ⟨⟨_, _, rfl, rfl⟩, ?_⟩)))
    (case mo5 => first | k_is | rfl | decide +kernel | k_exc | kernel_rfl | (repeat (first | exact True.intro | refine ⟨⟨_, _, rfl, rfl⟩, ?_⟩)))
    (case kk5_5 => first | k_is | rfl | decide +kernel | k_exc | kernel_rfl | (repeat (first | exact True.intro | refine ⟨⟨_, _, rfl, rfl⟩, ?_⟩)))
    (case np3 => first | k_is | rfl | decide +kernel | k_exc | kernel_rfl | (repeat (first | exact True.intro | refine ⟨⟨_, _, rfl, rfl⟩, ?_⟩)))
    (case ex3 => first | k_is | rfl | decide +kernel | k_exc | kernel_rfl | (repeat (first | exact True.intro | refine ⟨⟨_, _, rfl, rfl⟩, ?_⟩)))
    (case xL3 => first | k_is | rfl | decide +kernel | k_exc | kernel_rfl | (repeat (first | exact True.intro | refine ⟨⟨_, _, rfl, rfl⟩, ?_⟩)))
    (case sx3 => first | k_is | rfl | decide +kernel | k_exc | kernel_rfl | (repeat (first | exact True.intro | refine ⟨⟨_, _, rfl, rfl⟩, ?_⟩)))
    (case iC3 => first | k_is | rfl | decide +kernel | k_exc | kernel_rfl | (repeat (first | exact True.intro | refine ⟨⟨_, _, rfl, rfl⟩, ?_⟩)))
    (case tI3 => first | k_is | rfl | decide +kernel | k_exc | kernel_rfl | (repeat (first | exact True.intro | refine ⟨⟨_, _, rfl, rfl⟩, ?_⟩)))
    (case kx3 => first | k_is | rfl | decide +kernel | k_exc | kernel_rfl | (repeat (first | exact True.intro | refine ⟨⟨_, _, rfl, rfl⟩, ?_⟩)))
    (case ty3 => first | k_is | rfl | decide +kernel | k_exc | kernel_rfl | (repeat (first | exact True.intro | refine ⟨⟨_, _, rfl, rfl⟩, ?_⟩)))
    (case sv3 => first | k_is | rfl | decide +kernel | k_exc | kernel_rfl | (repeat (first | exact True.intro | refine ⟨⟨_, _, rfl, rfl⟩, ?_⟩)))
    (case su3 => first | k_is | rfl | decide +kernel | k_exc | kernel_rfl | (repeat (first | exact True.intro | refine ⟨⟨_, _, rfl, rfl⟩, ?_⟩)))
    (case mc3 => first | k_is | rfl | decide +kernel | k_exc | kernel_rfl | (repeat (first | exact True.intro | refine ⟨⟨_, _, rfl, rfl⟩, ?_⟩)))
    (case opq => first | k_is | rfl | decide +kernel | k_exc | kernel_rfl | (repeat (first | exact True.intro | refine ⟨⟨_, _, rfl, rfl⟩, ?_⟩)))
    (case zsup => first | k_is | rfl | decide +kernel | k_exc | kernel_rfl | (repeat (first | exact True.intro | refine ⟨⟨_, _, rfl, rfl⟩, ?_⟩)))
    (case lI3 => first | k_is | rfl | decide +kernel | k_exc | kernel_rfl | (repeat (first | exact True.intro | refine ⟨⟨_, _, rfl, rfl⟩, ?_⟩)))
    (case cI3 => first | k_is | rfl | decide +kernel | k_exc | kernel_rfl | (repeat (first | exact True.intro | refine ⟨⟨_, _, rfl, rfl⟩, ?_⟩)))
    (case lc3 => first | k_is | rfl | decide +kernel | k_exc | kernel_rfl | (repeat (first | exact True.intro | refine ⟨⟨_, _, rfl, rfl⟩, ?_⟩)))
    (case hv3 => first | k_is | rfl | decide +kernel | k_exc | kernel_rfl | (repeat (first | exact True.intro | refine ⟨⟨_, _, rfl, rfl⟩, ?_⟩)))
    (case hf3 => first | k_is | rfl | decide +kernel | k_exc | kernel_rfl | (repeat (first | exact True.intro | refine ⟨⟨_, _, rfl, rfl⟩, ?_⟩)))
    (case le3 => first | k_is | rfl | decide +kernel | k_exc | kernel_rfl | (repeat (first | exact True.intro | refine ⟨⟨_, _, rfl, rfl⟩, ?_⟩)))
    (case lT3 => first | k_is | rfl | decide +kernel | k_exc | kernel_rfl | (repeat (first | exact True.intro | refine ⟨⟨_, _, rfl, rfl⟩, ?_⟩)))
    (case oT3' => first | k_is | rfl | decide +kernel | k_exc | kernel_rfl | (repeat (first | exact True.intro | refine ⟨⟨_, _, rfl, rfl⟩, ?_⟩)))
    (case htop => first | k_is | rfl | decide +kernel | k_exc | kernel_rfl | (repeat (first | exact True.intro | refine ⟨⟨_, _, rfl, rfl⟩, ?_⟩)))
#print axioms PySem.Challenge.cw_registerrooms_k44_whole_counting_holds
