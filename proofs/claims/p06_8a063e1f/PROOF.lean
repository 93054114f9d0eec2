import PyProof.Rows.All
import Wide.All
import OpenK.AllK
import Wide.FinOn
import PyProof.EqAt
import PyProof.EqKinds
import PyProof.TupleCall
import HandS.ForMost
import HandS.IsInst
import HandS.Zip
import HandS.Evl
import HandS.Conv
import HandS.NoneIn
import HandS.Flow
import HandS.Style
import HandS.TupAny
import HandS.TupMul
import HandS.DictComp
import HandS.Wide
import KE.KSortTupG
import HandS.Sort
import HandS.New
import PyProof.TupleOfStr
import PyProof.Draws
import PyProof.EnumMake
import PyProof.EnumFor
import KE.KExcInit
import HandS.ExcInit
import HandS.ExcIs
import KE.KExcIs
import KE.KExcMake
import PySem.Challenge.RW_oldornew_k06_errors_by_themselves
set_option Elab.async false
set_option linter.all false
set_option maxRecDepth 100000
set_option maxHeartbeats 2000000
/-! Data in the heap, told by trees: what an expression gives is told as data alone, the heap goes along. -/
namespace DL
open PySem PySem.Spec PyProof.Rows L2
open Evl (Ex)

/-- from the data Hd within the heap H to the data Hd' within H': all stays; what is new among the data was not there -/
structure Ext (Hd H Hd' H' : Hp) : Prop where
  d : Ex Hd Hd'
  h : Ex H H'
  i : Ex Hd' H'
  f : ∀ a o, Hd a = none → H a = some o → Hd' a = none
theorem Ext.refl {Hd H : Hp} (e : Ex Hd H) : Ext Hd H Hd H := ⟨.refl _, .refl _, e, fun _ _ h _ => h⟩
theorem Ext.trans {A H B G C F : Hp} (a : Ext A H B G) (b : Ext B G C F) : Ext A H C F :=
  ⟨a.d.trans b.d, a.h.trans b.h, b.i, fun x o h1 h2 => b.f x o (a.f x o h1 h2) (a.h x o h2)⟩
/-- a new thing that is not taken among the data -/
theorem Ext.mut {A H B G : Hp} (e : Ext A H B G) {p : Addr} {o : HO} (hp : H p = none) (hB : B p = none) : Ext A H B (upd G p o) :=
  ⟨e.d, e.h.mut hp, fun a u ha => by rw [upd_ne (ne_of_none ha hB)]; exact e.i a u ha, e.f⟩
/-- a new thing that is taken among the data -/
theorem Ext.take {A H B G : Hp} (e : Ext A H B G) {p : Addr} {o : HO} (hp : H p = none) (hB : B p = none) (hG : G p = some o) : Ext A H (upd B p o) G :=
  ⟨e.d.trans (Ex.new hB), e.h, fun a u ha => by
    by_cases z : a = p
    · subst z; rw [upd_same] at ha; cases ha; exact hG
    · rw [upd_ne z] at ha; exact e.i a u ha, fun a u h1 h2 => by
    by_cases z : a = p
    · subst z; rw [hp] at h2; cases h2
    · rw [upd_ne z]; exact e.f a u h1 h2⟩
theorem Ext.new {A H B G : Hp} (e : Ext A H B G) {p : Addr} {o : HO} (hp : G p = none) : Ext A H (upd B p o) (upd G p o) := by
  have hB := Evl.fresh_back e.i hp
  have hH := Evl.fresh_back e.h hp
  exact (e.mut hH hB).take hH hB upd_same

/-- a key among the data -/
def keyD : Key → PyData
  | .inl i => .int i
  | .inr x => .str x
mutual
/-- the value v is the data d -/
inductive Dt (K : PySem.W.Frag) (H : Hp) : V → PyData → Prop
  | non : Dt K H .non .none
  | bl (b : Bool) : Dt K H (.bl b) (.bool b)
  | int (i : Int) : Dt K H (.int i) (.int i)
  | str (x : Str) : Dt K H (.str x) (.str x)
  | lst {a : Addr} {xs : List V} {ds : List PyData} : H a = some (.lst xs) → DtA K H xs ds → Dt K H (.ref a) (.list ds)
  | tup {a : Addr} {xs : List V} {ds : List PyData} : H a = some (.tup xs) → DtA K H xs ds → Dt K H (.ref a) (.tuple ds)
  | dct {a : Addr} {ks : List (Key × V)} {kvs : List (PyData × PyData)} : H a = some (.dK ks) → DtK K H ks kvs → Dt K H (.ref a) (.dict kvs)
  | dctT {a : Addr} {ks : List (List Key × V)} {kvs : List (PyData × PyData)} : H a = some (.dT ks) → DtT K H ks kvs → kvs ≠ [] → Dt K H (.ref a) (.dict kvs)
inductive DtK (K : PySem.W.Frag) (H : Hp) : List (Key × V) → List (PyData × PyData) → Prop
  | nil : DtK K H [] []
  | cons {x : Str} {v : V} {ks : List (Key × V)} {d : PyData} {kvs : List (PyData × PyData)} : Dt K H v d → DtK K H ks kvs → DtK K H ((.inr x, v) :: ks) ((.str x, d) :: kvs)
/-- the keys are rows of numbers and texts -/
inductive DtT (K : PySem.W.Frag) (H : Hp) : List (List Key × V) → List (PyData × PyData) → Prop
  | nil : DtT K H [] []
  | cons {k : List Key} {v : V} {ks : List (List Key × V)} {d : PyData} {kvs : List (PyData × PyData)} : Dt K H v d → DtT K H ks kvs → DtT K H ((k, v) :: ks) ((.tuple (k.map keyD), d) :: kvs)
inductive DtA (K : PySem.W.Frag) (H : Hp) : List V → List PyData → Prop
  | nil : DtA K H [] []
  | cons {v : V} {vs : List V} {d : PyData} {ds : List PyData} : Dt K H v d → DtA K H vs ds → DtA K H (v :: vs) (d :: ds)
end
section
variable {K : PySem.W.Frag} {H H' : Hp}
mutual
theorem Dt.mono (e : Ex H H') : ∀ {d : PyData} {v : V}, Dt K H v d → Dt K H' v d
  | _, _, .non => .non
  | _, _, .bl b => .bl b
  | _, _, .int b => .int b
  | _, _, .str b => .str b
  | _, _, .lst h1 h2 => .lst (e _ _ h1) (DtA.mono e h2)
  | _, _, .tup h1 h2 => .tup (e _ _ h1) (DtA.mono e h2)
  | _, _, .dct h1 h2 => .dct (e _ _ h1) (DtK.mono e h2)
  | _, _, .dctT h1 h2 h3 => .dctT (e _ _ h1) (DtT.mono e h2) h3
theorem DtK.mono (e : Ex H H') : ∀ {kvs : List (PyData × PyData)} {ks : List (Key × V)}, DtK K H ks kvs → DtK K H' ks kvs
  | _, _, .nil => .nil
  | _, _, .cons h1 h2 => .cons (Dt.mono e h1) (DtK.mono e h2)
theorem DtT.mono (e : Ex H H') : ∀ {kvs : List (PyData × PyData)} {ks : List (List Key × V)}, DtT K H ks kvs → DtT K H' ks kvs
  | _, _, .nil => .nil
  | _, _, .cons h1 h2 => .cons (Dt.mono e h1) (DtT.mono e h2)
theorem DtA.mono (e : Ex H H') : ∀ {ds : List PyData} {vs : List V}, DtA K H vs ds → DtA K H' vs ds
  | _, _, .nil => .nil
  | _, _, .cons h1 h2 => .cons (Dt.mono e h1) (DtA.mono e h2)
end
mutual
theorem Dt.dp : ∀ {d : PyData} {v : V}, PyData.canLay0 d = true → Dt K H v d → Dp K H v d
  | .none, _, _, h => by cases h; exact .non
  | .bool b, _, _, h => by cases h; exact .bl b
  | .int b, _, _, h => by cases h; exact .int b
  | .str b, _, _, h => by cases h; exact .str b
  | .list ds, _, c, h => by
    cases h with
    | lst h1 h2 => exact .lst (SqL.of h1) (DtA.dp (by simpa [PyData.canLay0] using c) h2)
  | .tuple ds, _, c, h => by
    cases h with
    | tup h1 h2 => exact .tup (SqT.of h1) (DtA.dp (by simpa [PyData.canLay0] using c) h2)
  | .dict _, _, c, h => by simp [PyData.canLay0] at c
theorem DtA.dp : ∀ {ds : List PyData} {vs : List V}, PyData.canLayAll0 ds = true → DtA K H vs ds → DpAll K H vs ds
  | [], _, _, h => by cases h; exact .nil
  | d :: ds, _, c, h => by
    simp only [PyData.canLayAll0, Bool.and_eq_true] at c
    cases h with
    | cons h1 h2 => exact .cons (Dt.dp c.1 h1) (DtA.dp c.2 h2)
end
theorem DtA.length : ∀ {vs : List V} {ds : List PyData}, DtA K H vs ds → vs.length = ds.length
  | [], _, h => by cases h; rfl
  | v :: vs, _, h => by
    cases h with
    | cons h1 h2 => simp [DtA.length h2]
theorem DtA.append : ∀ {vs ws : List V} {ds es : List PyData}, DtA K H vs ds → DtA K H ws es → DtA K H (vs ++ ws) (ds ++ es)
  | [], _, _, _, h, g => by cases h; exact g
  | v :: vs, _, _, _, h, g => by
    cases h with
    | cons h1 h2 => exact .cons h1 (DtA.append h2 g)
theorem DtA.get : ∀ {vs : List V} {ds : List PyData} {i : Nat} {v : V}, DtA K H vs ds → vs[i]? = some v → ∃ d, ds[i]? = some d ∧ Dt K H v d
  | [], _, _, _, h, e => by simp at e
  | v :: vs, _, 0, _, h, e => by
    cases h with
    | cons h1 h2 => simp at e; subst e; exact ⟨_, rfl, h1⟩
  | v :: vs, _, i + 1, _, h, e => by
    cases h with
    | cons h1 h2 =>
      obtain ⟨d, a, b⟩ := DtA.get (i := i) h2 (by simpa using e)
      exact ⟨d, by simpa using a, b⟩
theorem DtA.got {vs : List V} {ds : List PyData} {i : Nat} {d : PyData} (h : DtA K H vs ds) (e : ds[i]? = some d) : ∃ v, vs[i]? = some v ∧ Dt K H v d := by
  have hl := h.length
  have hi : i < vs.length := by
    have := (List.getElem?_eq_some_iff.mp e).1
    omega
  obtain ⟨d', a, b⟩ := h.get (i := i) (v := vs[i]) (by simp [hi])
  rw [e] at a
  cases a
  exact ⟨_, by simp [hi], b⟩
theorem DtA.take : ∀ {vs : List V} {ds : List PyData} (n : Nat), DtA K H vs ds → DtA K H (vs.take n) (ds.take n)
  | _, _, 0, _ => by simp; exact .nil
  | [], _, n + 1, h => by cases h; simp; exact .nil
  | v :: vs, _, n + 1, h => by
    cases h with
    | cons h1 h2 => exact .cons h1 (DtA.take n h2)
theorem DtA.drop : ∀ {vs : List V} {ds : List PyData} (n : Nat), DtA K H vs ds → DtA K H (vs.drop n) (ds.drop n)
  | _, _, 0, h => by simpa using h
  | [], _, n + 1, h => by cases h; simp; exact .nil
  | v :: vs, _, n + 1, h => by
    cases h with
    | cons h1 h2 => exact DtA.drop n h2
theorem DtA.rev {vs : List V} {ds : List PyData} (h : DtA K H vs ds) : DtA K H vs.reverse ds.reverse := by
  induction vs generalizing ds with
  | nil => cases h; exact .nil
  | cons v vs ih =>
    cases h with
    | cons h1 h2 =>
      rw [List.reverse_cons, List.reverse_cons]
      exact (ih h2).append (.cons h1 .nil)
theorem DtA.strs : ∀ (xs : List Str), DtA K H (xs.map V.str) (xs.map PyData.str)
  | [] => .nil
  | x :: xs => .cons (.str x) (DtA.strs xs)
theorem DtA.ints : ∀ (xs : List Int), DtA K H (xs.map V.int) (xs.map PyData.int)
  | [] => .nil
  | x :: xs => .cons (.int x) (DtA.ints xs)
theorem DtA.bls : ∀ (xs : List Bool), DtA K H (xs.map V.bl) (xs.map PyData.bool)
  | [] => .nil
  | x :: xs => .cons (.bl x) (DtA.bls xs)
theorem DtA.ofStrs : ∀ {xs : List Str} {vs : List V}, DtA K H vs (xs.map PyData.str) → vs = xs.map V.str
  | [], _, h => by cases h; rfl
  | x :: xs, _, h => by
    cases h with
    | cons h1 h2 => cases h1; rw [DtA.ofStrs h2]; rfl
theorem DtA.ofInts : ∀ {xs : List Int} {vs : List V}, DtA K H vs (xs.map PyData.int) → vs = xs.map V.int
  | [], _, h => by cases h; rfl
  | x :: xs, _, h => by
    cases h with
    | cons h1 h2 => cases h1; rw [DtA.ofInts h2]; rfl
theorem DtA.ofBls : ∀ {xs : List Bool} {vs : List V}, DtA K H vs (xs.map PyData.bool) → vs = xs.map V.bl
  | [], _, h => by cases h; rfl
  | x :: xs, _, h => by
    cases h with
    | cons h1 h2 => cases h1; rw [DtA.ofBls h2]; rfl
end
end DL

namespace DL
open PySem PySem.Spec PyProof.Rows L2
open Evl (Ex)

/-- what is known of a slot: nothing, its value, its data, a list of the def's own with its data -/
inductive G where
  | any | val (v : V) | dat (d : PyData) | own (ds : List PyData) | ownD (kvs : List (PyData × PyData))
/-- a dict's contents -/
def DtD (K : PySem.W.Frag) (Hd : Hp) (o : HO) (kvs : List (PyData × PyData)) : Prop := (∃ ks, o = .dK ks ∧ DtK K Hd ks kvs) ∨ ∃ ks, o = .dT ks ∧ DtT K Hd ks kvs
theorem DtD.mono {K : PySem.W.Frag} {H H' : Hp} {o : HO} {kvs : List (PyData × PyData)} (h : DtD K H o kvs) (e : Ex H H') : DtD K H' o kvs := h.elim (fun ⟨ks, a, b⟩ => .inl ⟨ks, a, b.mono e⟩) fun ⟨ks, a, b⟩ => .inr ⟨ks, a, b.mono e⟩
theorem DtD.nl {K : PySem.W.Frag} {H : Hp} {o : HO} {kvs : List (PyData × PyData)} (h : DtD K H o kvs) {xs : List V} : o ≠ .lst xs := fun z => by
  subst z
  rcases h with ⟨_, q, _⟩ | ⟨_, q, _⟩ <;> cases q
def GOk (K : PySem.W.Frag) (H0 : Hp) (σ : L2.St) (Hd H : Hp) (i : Nat) : G → Prop
  | .any => True
  | .val v => σ[i]? = some (some v)
  | .dat d => ∃ v, σ[i]? = some (some v) ∧ Dt K Hd v d
  | .own ds => ∃ a vs, σ[i]? = some (some (.ref a)) ∧ H0 a = none ∧ Hd a = none ∧ H a = some (.lst vs) ∧ DtA K Hd vs ds
  | .ownD kvs => ∃ a o, σ[i]? = some (some (.ref a)) ∧ H0 a = none ∧ Hd a = none ∧ H a = some o ∧ DtD K Hd o kvs
structure En (K : PySem.W.Frag) (Hd0 H0 : Hp) (Γ : List G) (σ : L2.St) (Hd H : Hp) : Prop where
  x : Ext Hd0 H0 Hd H
  l : Γ.length = σ.length
  g : ∀ i g, Γ[i]? = some g → GOk K H0 σ Hd H i g
  o : ∀ (i j : Nat) (ds es : List PyData) (v : Option (Option V)), i ≠ j → Γ[i]? = some (.own ds) → Γ[j]? = some (.own es) → σ[i]? = v → σ[j]? = v → False
section
variable {K : PySem.W.Frag} {Hd0 H0 Hd H Hd' H' : Hp} {Γ Δ : List G} {σ : L2.St}
theorem En.ext (e : En K Hd0 H0 Γ σ Hd H) (x : Ext Hd H Hd' H') : En K Hd0 H0 Γ σ Hd' H' := by
  refine ⟨e.x.trans x, e.l, fun i g hg => ?_, e.o⟩
  have q := e.g i g hg
  cases g with
  | any => trivial
  | val v => exact q
  | dat d =>
    obtain ⟨v, h1, h2⟩ := q
    exact ⟨v, h1, h2.mono x.d⟩
  | own ds =>
    obtain ⟨a, vs, h1, h0, h2, h3, h4⟩ := q
    exact ⟨a, vs, h1, h0, x.f _ _ h2 h3, x.h _ _ h3, h4.mono x.d⟩
  | ownD kvs =>
    obtain ⟨a, o, h1, h0, h2, h3, h4⟩ := q
    exact ⟨a, o, h1, h0, x.f _ _ h2 h3, x.h _ _ h3, h4.mono x.d⟩
theorem En.dat (e : En K Hd0 H0 Γ σ Hd H) {i : Nat} {d : PyData} (h : Γ[i]? = some (.dat d)) : ∃ v, σ[i]? = some (some v) ∧ Dt K Hd v d := e.g i _ h
theorem En.own (e : En K Hd0 H0 Γ σ Hd H) {i : Nat} {ds : List PyData} (h : Γ[i]? = some (.own ds)) : ∃ a vs, σ[i]? = some (some (.ref a)) ∧ H0 a = none ∧ Hd a = none ∧ H a = some (.lst vs) ∧ DtA K Hd vs ds := e.g i _ h
theorem get_set_eq {α : Type} {l : List α} {i : Nat} {a b : α} (h : (l.set i a)[i]? = some b) : b = a := by
  rw [List.getElem?_set_self'] at h
  cases e : l[i]? with
  | none => rw [e] at h; cases h
  | some c => rw [e] at h; exact (Option.some.inj h).symm
/-- a slot is given a value whose data is known -/
theorem En.set (e : En K Hd0 H0 Γ σ Hd H) {i : Nat} {v : V} {d : PyData} (hd : Dt K Hd v d) : En K Hd0 H0 (Γ.set i (.dat d)) (σ.set i (some v)) Hd H := by
  refine ⟨e.x, by simp [e.l], fun j g hg => ?_, fun j k ds es w hjk h1 h2 => ?_⟩
  · by_cases z : i = j
    · subst z
      have q := get_set_eq hg
      subst q
      have hi : i < Γ.length := by
        have := (List.getElem?_eq_some_iff.mp hg).1
        simpa using this
      exact ⟨v, by simp [e.l ▸ hi], hd⟩
    · rw [List.getElem?_set_ne z] at hg
      have q := e.g j g hg
      cases g with
      | any => trivial
      | val v => show (σ.set i _)[j]? = _; rw [List.getElem?_set_ne z]; exact q
      | dat d => obtain ⟨v, h1, h2⟩ := q; exact ⟨v, by rw [List.getElem?_set_ne z]; exact h1, h2⟩
      | own ds => obtain ⟨a, vs, h1, h2⟩ := q; exact ⟨a, vs, by rw [List.getElem?_set_ne z]; exact h1, h2⟩
      | ownD ds => obtain ⟨a, vs, h1, h2⟩ := q; exact ⟨a, vs, by rw [List.getElem?_set_ne z]; exact h1, h2⟩
  · have nj : i ≠ j := fun z => by subst z; exact nomatch get_set_eq h1
    have nk : i ≠ k := fun z => by subst z; exact nomatch get_set_eq h2
    rw [List.getElem?_set_ne nj] at h1 ⊢
    rw [List.getElem?_set_ne nk] at h2 ⊢
    exact e.o j k ds es w hjk h1 h2
theorem En.forget (e : En K Hd0 H0 Γ σ Hd H) {i : Nat} {v : Option V} : En K Hd0 H0 (Γ.set i .any) (σ.set i v) Hd H := by
  refine ⟨e.x, by simp [e.l], fun j g hg => ?_, fun j k ds es w hjk h1 h2 => ?_⟩
  · by_cases z : i = j
    · subst z
      have q := get_set_eq hg
      subst q
      trivial
    · rw [List.getElem?_set_ne z] at hg
      have q := e.g j g hg
      cases g with
      | any => trivial
      | val v => show (σ.set i _)[j]? = _; rw [List.getElem?_set_ne z]; exact q
      | dat d => obtain ⟨v, h1, h2⟩ := q; exact ⟨v, by rw [List.getElem?_set_ne z]; exact h1, h2⟩
      | own ds => obtain ⟨a, vs, h1, h2⟩ := q; exact ⟨a, vs, by rw [List.getElem?_set_ne z]; exact h1, h2⟩
      | ownD ds => obtain ⟨a, vs, h1, h2⟩ := q; exact ⟨a, vs, by rw [List.getElem?_set_ne z]; exact h1, h2⟩
  · have nj : i ≠ j := fun z => by subst z; exact nomatch get_set_eq h1
    have nk : i ≠ k := fun z => by subst z; exact nomatch get_set_eq h2
    rw [List.getElem?_set_ne nj] at h1 ⊢
    rw [List.getElem?_set_ne nk] at h2 ⊢
    exact e.o j k ds es w hjk h1 h2
/-- less is known -/
theorem En.weak (e : En K Hd0 H0 Γ σ Hd H) {i : Nat} : En K Hd0 H0 (Γ.set i .any) σ Hd H := by
  refine ⟨e.x, by simp [e.l], fun j g hg => ?_, fun j k ds es w hjk h1 h2 => ?_⟩
  · by_cases z : i = j
    · subst z
      have q := get_set_eq hg
      subst q
      trivial
    · rw [List.getElem?_set_ne z] at hg
      exact e.g j g hg
  · have nj : i ≠ j := fun z => by subst z; exact nomatch get_set_eq h1
    have nk : i ≠ k := fun z => by subst z; exact nomatch get_set_eq h2
    rw [List.getElem?_set_ne nj] at h1
    rw [List.getElem?_set_ne nk] at h2
    exact e.o j k ds es w hjk h1 h2
end

section
variable (K : PySem.W.Frag)
/-- te gives the data d -/
def ED (te : TE) (Γ : List G) (d : PyData) : Prop := ∀ Hd0 H0 σ Hd H, En K Hd0 H0 Γ σ Hd H → ∀ Q : VK, (∀ v Hd' H', Ext Hd H Hd' H' → Dt K Hd' v d → Q v H') → te σ H Q
/-- te gives a list that can be read, of the data ds -/
def ER (te : TE) (Γ : List G) (ds : List PyData) : Prop := ∀ Hd0 H0 σ Hd H, En K Hd0 H0 Γ σ Hd H → ∀ Q : VK, (∀ a vs Hd' H', Ext Hd H Hd' H' → H' a = some (.lst vs) → DtA K Hd' vs ds → Q (.ref a) H') → te σ H Q
/-- te gives a new list of the data ds -/
def EF (te : TE) (Γ : List G) (ds : List PyData) : Prop := ∀ Hd0 H0 σ Hd H, En K Hd0 H0 Γ σ Hd H → ∀ Q : VK, (∀ a vs Hd' H', Ext Hd H Hd' H' → H a = none → Hd' a = none → H' a = some (.lst vs) → DtA K Hd' vs ds → Q (.ref a) H') → te σ H Q
/-- a test -/
def ET (tt : TT) (Γ : List G) (b : Bool) : Prop := ∀ Hd0 H0 σ Hd H, En K Hd0 H0 Γ σ Hd H → ∀ Q : Bool → Hp → Prop, (∀ Hd' H', Ext Hd H Hd' H' → Q b H') → tt σ H Q
/-- arguments -/
def EA (ta : TA) (Γ : List G) (ds : List PyData) : Prop := ∀ Hd0 H0 σ Hd H, En K Hd0 H0 Γ σ Hd H → ∀ Q : List V → Hp → Prop, (∀ vs Hd' H', Ext Hd H Hd' H' → DtA K Hd' vs ds → Q vs H') → ta σ H Q
/-- a part of a slice -/
def EO (to : TO) (Γ : List G) (o : Option Int) : Prop := ∀ Hd0 H0 σ Hd H, En K Hd0 H0 Γ σ Hd H → ∀ Q : Option Int → Hp → Prop, (∀ Hd' H', Ext Hd H Hd' H' → Q o H') → to σ H Q
/-- an operation on data -/
def RD (r : R2) (x y z : PyData) : Prop := ∀ Hd H v w, Ex Hd H → Dt K Hd v x → Dt K Hd w y → ∀ Q : VK, (∀ u Hd' H', Ext Hd H Hd' H' → Dt K Hd' u z → Q u H') → r v w H Q
def RF (r : R2) (x y : PyData) (zs : List PyData) : Prop := ∀ Hd H v w, Ex Hd H → Dt K Hd v x → Dt K Hd w y → ∀ Q : VK, (∀ a vs Hd' H', Ext Hd H Hd' H' → H a = none → Hd' a = none → H' a = some (.lst vs) → DtA K Hd' vs zs → Q (.ref a) H') → r v w H Q
def CD (r : List V → Hp → VK → Prop) (xs : List PyData) (z : PyData) : Prop := ∀ Hd H vs, Ex Hd H → DtA K Hd vs xs → ∀ Q : VK, (∀ u Hd' H', Ext Hd H Hd' H' → Dt K Hd' u z → Q u H') → r vs H Q
def CF (r : List V → Hp → VK → Prop) (xs : List PyData) (zs : List PyData) : Prop := ∀ Hd H vs, Ex Hd H → DtA K Hd vs xs → ∀ Q : VK, (∀ a ws Hd' H', Ext Hd H Hd' H' → H a = none → Hd' a = none → H' a = some (.lst ws) → DtA K Hd' ws zs → Q (.ref a) H') → r vs H Q
end

section
variable {K : PySem.W.Frag} {Γ Δ : List G} {ta tb tc te tl : TE} {tt tu : TT} {r : R2} {d e x y z : PyData} {ds es xs ys : List PyData} {b c : Bool}
theorem ed_var {i : Nat} (h : Γ[i]? = some (.dat d)) : ED K (tVar i) Γ d := fun _ _ σ Hd H e Q q => by
  obtain ⟨v, h1, h2⟩ := e.dat h
  exact ⟨v, h1, q v Hd H (.refl e.x.i) h2⟩
theorem er_own {i : Nat} (h : Γ[i]? = some (.own ds)) : ER K (tVar i) Γ ds := fun _ _ σ Hd H e Q q => by
  obtain ⟨a, vs, h1, h0, h2, h3, h4⟩ := e.own h
  exact ⟨_, h1, q a vs Hd H (.refl e.x.i) h3 h4⟩
theorem ed_int {i : Int} : ED K (tC (.int i)) Γ (.int i) := fun _ _ σ Hd H e Q q => q _ Hd H (.refl e.x.i) (.int i)
theorem ed_str {i : Str} : ED K (tC (.str i)) Γ (.str i) := fun _ _ σ Hd H e Q q => q _ Hd H (.refl e.x.i) (.str i)
theorem ed_bl {i : Bool} : ED K (tC (.bl i)) Γ (.bool i) := fun _ _ σ Hd H e Q q => q _ Hd H (.refl e.x.i) (.bl i)
theorem ed_non : ED K (tC .non) Γ .none := fun _ _ σ Hd H e Q q => q _ Hd H (.refl e.x.i) .non
/-- a new list is taken among the data -/
theorem EF.dat (h : EF K te Γ ds) : ED K te Γ (.list ds) := fun _ _ σ Hd H e Q q => h _ _ σ Hd H e Q fun a vs Hd' H' x h1 h2 h3 h4 =>
  q _ (upd Hd' a (.lst vs)) H' (x.take h1 h2 h3) (.lst upd_same (h4.mono (Ex.new h2)))
theorem EF.rd (h : EF K te Γ ds) : ER K te Γ ds := fun _ _ σ Hd H e Q q => h _ _ σ Hd H e Q fun a vs Hd' H' x h1 h2 h3 h4 => q a vs Hd' H' x h3 h4
theorem ED.rd (h : ED K te Γ (.list ds)) : ER K te Γ ds := fun _ _ σ Hd H e Q q => h _ _ σ Hd H e Q fun v Hd' H' x h1 => by
  cases h1 with
  | lst h2 h3 => exact q _ _ Hd' H' x (x.i _ _ h2) h3
theorem ED.is (h : ED K te Γ d) (q : d = e) : ED K te Γ e := q ▸ h
theorem ER.is (h : ER K te Γ ds) (q : ds = es) : ER K te Γ es := q ▸ h
theorem EF.is (h : EF K te Γ ds) (q : ds = es) : EF K te Γ es := q ▸ h
theorem ET.is (h : ET K tt Γ b) (q : b = c) : ET K tt Γ c := q ▸ h
theorem ea_nil : EA K tNil Γ [] := fun _ _ σ Hd H e Q q => q _ Hd H (.refl e.x.i) .nil
theorem ea_cons {tr : TA} (h : ED K ta Γ x) (hr : EA K tr Γ xs) : EA K (tCons ta tr) Γ (x :: xs) := fun _ _ σ Hd H e Q q =>
  h _ _ σ Hd H e _ fun v Hd1 H1 x1 d1 => hr _ _ σ Hd1 H1 (e.ext x1) _ fun vs Hd2 H2 x2 d2 => q _ Hd2 H2 (x1.trans x2) (.cons (d1.mono x2.d) d2)
theorem ed_op (h1 : ED K ta Γ x) (h2 : ED K tb Γ y) (hr : RD K r x y z) : ED K (tOp r ta tb) Γ z := fun _ _ σ Hd H e Q q =>
  h1 _ _ σ Hd H e _ fun v Hd1 H1 x1 d1 => h2 _ _ σ Hd1 H1 (e.ext x1) _ fun w Hd2 H2 x2 d2 => hr Hd2 H2 v w x2.i (d1.mono x2.d) d2 Q fun u Hd3 H3 x3 d3 => q u Hd3 H3 (x1.trans (x2.trans x3)) d3
theorem ef_op (h1 : ED K ta Γ x) (h2 : ED K tb Γ y) (hr : RF K r x y ds) : EF K (tOp r ta tb) Γ ds := fun _ _ σ Hd H e Q q =>
  h1 _ _ σ Hd H e _ fun v Hd1 H1 x1 d1 => h2 _ _ σ Hd1 H1 (e.ext x1) _ fun w Hd2 H2 x2 d2 => hr Hd2 H2 v w x2.i (d1.mono x2.d) d2 Q fun a vs Hd3 H3 x3 n1 n2 n3 d3 =>
    q a vs Hd3 H3 (x1.trans (x2.trans x3)) (Evl.fresh_back (x1.trans x2).h n1) n2 n3 d3
theorem ed_cb {ta : TA} {r : List V → Hp → VK → Prop} (h : EA K ta Γ xs) (hr : CD K r xs z) : ED K (tCB r ta) Γ z := fun _ _ σ Hd H e Q q =>
  h _ _ σ Hd H e _ fun vs Hd1 H1 x1 d1 => hr Hd1 H1 vs x1.i d1 Q fun u Hd2 H2 x2 d2 => q u Hd2 H2 (x1.trans x2) d2
theorem ef_cb {ta : TA} {r : List V → Hp → VK → Prop} (h : EA K ta Γ xs) (hr : CF K r xs ds) : EF K (tCB r ta) Γ ds := fun _ _ σ Hd H e Q q =>
  h _ _ σ Hd H e _ fun vs Hd1 H1 x1 d1 => hr Hd1 H1 vs x1.i d1 Q fun a ws Hd2 H2 x2 n1 n2 n3 d2 => q a ws Hd2 H2 (x1.trans x2) (Evl.fresh_back x1.h n1) n2 n3 d2
theorem fits_of {n : Nat} (h : n ≤ 100000) : n ≤ sizeLine := Nat.le_trans h (by decide)
theorem ed_tup {ta : TA} (h : EA K ta Γ xs) (hl : xs.length ≤ 100000) : ED K (tTup ta) Γ (.tuple xs) := fun _ _ σ Hd H e Q q =>
  h _ _ σ Hd H e _ fun vs Hd1 H1 x1 d1 => ⟨fits_of (d1.length ▸ hl), fun p hp => q _ (upd Hd1 p (.tup vs)) _ (x1.new hp) (.tup upd_same (d1.mono (Ex.new (Evl.fresh_back x1.i hp))))⟩
theorem ef_lst {ta : TA} (h : EA K ta Γ xs) (hl : xs.length ≤ 100000) : EF K (tLst ta) Γ xs := fun _ _ σ Hd H e Q q =>
  h _ _ σ Hd H e _ fun vs Hd1 H1 x1 d1 => ⟨fits_of (d1.length ▸ hl), fun p hp => q p vs Hd1 _ (x1.mut (Evl.fresh_back x1.h hp) (Evl.fresh_back x1.i hp)) (Evl.fresh_back x1.h hp) (Evl.fresh_back x1.i hp) upd_same d1⟩

/-! ### tests -/
theorem et_val (h : ED K te Γ (.bool b)) : ET K (tB te) Γ b := fun _ _ σ Hd H e Q q => h _ _ σ Hd H e _ fun v Hd1 H1 x1 d1 => by
  cases d1
  exact ⟨b, rfl, q Hd1 H1 x1⟩
theorem et_test (h : ED K te Γ (.bool b)) : ET K (tTest te) Γ b := fun _ _ σ Hd H e Q q => h _ _ σ Hd H e _ fun v Hd1 H1 x1 d1 => by
  cases d1
  exact ⟨b, rfl, q Hd1 H1 x1⟩
theorem et_not (h : ET K tt Γ b) : ET K (tNot tt) Γ (!b) := fun _ _ σ Hd H e Q q => h _ _ σ Hd H e _ fun Hd1 H1 x1 => q Hd1 H1 x1
theorem et_and (h1 : ET K tt Γ b) (h2 : b = true → ET K tu Γ c) : ET K (tAnd tt tu) Γ (b && c) := fun _ _ σ Hd H e Q q => h1 _ _ σ Hd H e _ fun Hd1 H1 x1 => by
  cases b with
  | true => exact iteT (h2 rfl _ _ σ Hd1 H1 (e.ext x1) _ fun Hd2 H2 x2 => q Hd2 H2 (x1.trans x2))
  | false => exact iteF (q Hd1 H1 x1)
theorem et_or (h1 : ET K tt Γ b) (h2 : b = false → ET K tu Γ c) : ET K (tOr tt tu) Γ (b || c) := fun _ _ σ Hd H e Q q => h1 _ _ σ Hd H e _ fun Hd1 H1 x1 => by
  cases b with
  | true => exact iteT (q Hd1 H1 x1)
  | false => exact iteF (h2 rfl _ _ σ Hd1 H1 (e.ext x1) _ fun Hd2 H2 x2 => q Hd2 H2 (x1.trans x2))
theorem ed_and (h1 : ED K ta Γ (.bool b)) (h2 : b = true → ED K tb Γ (.bool c)) : ED K (tAndV ta tb) Γ (.bool (b && c)) := fun _ _ σ Hd H e Q q => h1 _ _ σ Hd H e _ fun v Hd1 H1 x1 d1 => by
  cases d1
  refine ⟨b, rfl, ?_⟩
  cases b with
  | true => exact iteT (h2 rfl _ _ σ Hd1 H1 (e.ext x1) _ fun w Hd2 H2 x2 d2 => q w Hd2 H2 (x1.trans x2) d2)
  | false => exact iteF (q _ Hd1 H1 x1 (.bl false))
theorem ed_or (h1 : ED K ta Γ (.bool b)) (h2 : b = false → ED K tb Γ (.bool c)) : ED K (tOrV ta tb) Γ (.bool (b || c)) := fun _ _ σ Hd H e Q q => h1 _ _ σ Hd H e _ fun v Hd1 H1 x1 d1 => by
  cases d1
  refine ⟨b, rfl, ?_⟩
  cases b with
  | true => exact iteT (q _ Hd1 H1 x1 (.bl true))
  | false => exact iteF (h2 rfl _ _ σ Hd1 H1 (e.ext x1) _ fun w Hd2 H2 x2 d2 => q w Hd2 H2 (x1.trans x2) d2)
theorem ed_not (h1 : ED K ta Γ (.bool b)) : ED K (tNotV ta) Γ (.bool (!b)) := fun _ _ σ Hd H e Q q => h1 _ _ σ Hd H e _ fun v Hd1 H1 x1 d1 => by
  cases d1
  exact ⟨b, rfl, q _ Hd1 H1 x1 (.bl _)⟩
theorem ed_if {d : PyData} (h : ET K tt Γ b) (h1 : b = true → ED K ta Γ d) (h2 : b = false → ED K tb Γ d) : ED K (tIf tt ta tb) Γ d := fun _ _ σ Hd H e Q q => h _ _ σ Hd H e _ fun Hd1 H1 x1 => by
  cases b with
  | true => exact iteT (h1 rfl _ _ σ Hd1 H1 (e.ext x1) _ fun w Hd2 H2 x2 d2 => q w Hd2 H2 (x1.trans x2) d2)
  | false => exact iteF (h2 rfl _ _ σ Hd1 H1 (e.ext x1) _ fun w Hd2 H2 x2 d2 => q w Hd2 H2 (x1.trans x2) d2)

/-! ### operators -/
theorem rd_I0 {g : Int → Int → V} {i j : Int} (h : ∀ Hd, Dt K Hd (g i j) z) : RD K (rI0 g) (.int i) (.int j) z := fun Hd H v w e h1 h2 Q q => by
  cases h1; cases h2
  exact ⟨i, j, rfl, rfl, q _ Hd H (.refl e) (h Hd)⟩
theorem rd_I {C : Int → Int → Prop} {g : Int → Int → V} {i j : Int} (hc : C i j) (h : ∀ Hd, Dt K Hd (g i j) z) : RD K (rI C g) (.int i) (.int j) z := fun Hd H v w e h1 h2 Q q => by
  cases h1; cases h2
  exact ⟨i, j, rfl, rfl, hc, q _ Hd H (.refl e) (h Hd)⟩
theorem rd_eqD (h1 : SeqAt.shaped x = true) (h2 : SeqAt.shaped y = true) : RD K (rEqD K) x y (.bool (PyData.eqv x y)) := fun Hd H v w e d1 d2 Q q =>
  ⟨x, y, (d1.mono e).dp (SeqAt.canLay_of_shaped h1), (d2.mono e).dp (SeqAt.canLay_of_shaped h2), h1, h2, q _ Hd H (.refl e) (.bl _)⟩
theorem rd_neD (h1 : SeqAt.shaped x = true) (h2 : SeqAt.shaped y = true) : RD K (rNeD K) x y (.bool (!PyData.eqv x y)) := fun Hd H v w e d1 d2 Q q =>
  ⟨x, y, (d1.mono e).dp (SeqAt.canLay_of_shaped h1), (d2.mono e).dp (SeqAt.canLay_of_shaped h2), h1, h2, q _ Hd H (.refl e) (.bl _)⟩
/-- the data that an index gives -/
theorem rd_ixL {i : Int} (h : atI xs i = some z) : RD K (rIx K) (.list xs) (.int i) z := fun Hd H v w e d1 d2 Q q => by
  cases d2
  cases d1 with
  | lst h1 h2 =>
    unfold atI at h
    cases hj : ixN xs.length i with
    | none => rw [hj] at h; cases h
    | some j =>
      rw [hj] at h
      obtain ⟨u, g1, g2⟩ := h2.got (i := j) h
      exact .inl ⟨_, _, i, u, rfl, rfl, SqL.of (e _ _ h1), (by unfold atI; rw [h2.length, hj]; exact g1), q _ Hd H (.refl e) g2⟩
theorem rd_ixT {i : Int} (h : atI xs i = some z) : RD K (rIx K) (.tuple xs) (.int i) z := fun Hd H v w e d1 d2 Q q => by
  cases d2
  cases d1 with
  | tup h1 h2 =>
    unfold atI at h
    cases hj : ixN xs.length i with
    | none => rw [hj] at h; cases h
    | some j =>
      rw [hj] at h
      obtain ⟨u, g1, g2⟩ := h2.got (i := j) h
      exact .inr (.inl ⟨_, _, i, u, rfl, rfl, SqT.of (e _ _ h1), (by unfold atI; rw [h2.length, hj]; exact g1), q _ Hd H (.refl e) g2⟩)
theorem rd_ixS {s : Str} {i : Int} {c : Nat} (hl : s.length ≤ 100000) (h : atI s.cps.toList i = some c) : RD K (rIx K) (.str s) (.int i) (.str ⟨#[c]⟩) := fun Hd H v w e d1 d2 Q q => by
  cases d2
  cases d1
  exact .inr (.inr ⟨s, i, c, rfl, rfl, fits_of hl, h, q _ Hd H (.refl e) (.str _)⟩)
theorem rf_cat (hl : xs.length + ys.length ≤ 100000) : RF K rCat (.list xs) (.list ys) (xs ++ ys) := fun Hd H v w e d1 d2 Q q => by
  cases d1 with
  | lst h1 h2 => cases d2 with
    | lst g1 g2 => exact ⟨_, _, _, _, rfl, rfl, e _ _ h1, e _ _ g1, fits_of (by rw [h2.length, g2.length]; exact hl), fun p hp => q p _ Hd _ ((Ext.refl e).mut hp (Evl.fresh_back e hp)) hp (Evl.fresh_back e hp) upd_same (h2.append g2)⟩
end
end DL

namespace DL
open PySem PySem.Spec PyProof.Rows L2
open Evl (Ex)
open RZ

def wipeG (Γ : List G) : List Nat → List G
  | [] => Γ
  | v :: vs => (wipeG Γ vs).set v .any
theorem En.wipe {K : PySem.W.Frag} {Hd0 H0 Hd H : Hp} {Γ : List G} {σ : L2.St} (e : En K Hd0 H0 Γ σ Hd H) : ∀ vs : List Nat, En K Hd0 H0 (wipeG Γ vs) (wipe σ vs) Hd H
  | [] => e
  | v :: vs => (En.wipe e vs).forget
theorem wipe_set {σ : L2.St} {i : Nat} {x : Option V} : ∀ {vs : List Nat}, i ∈ vs → wipe (σ.set i x) vs = wipe σ vs
  | [], h => by cases h
  | v :: vs, h => by
    show (wipe (σ.set i x) vs).set v none = (wipe σ vs).set v none
    by_cases z : i ∈ vs
    · rw [wipe_set z]
    · have e : i = v := by
        rcases List.mem_cons.mp h with q | q
        · exact q
        · exact absurd q z
      subst e
      have aux : ∀ (ws : List Nat) (τ : L2.St), i ∉ ws → wipe (τ.set i x) ws = (wipe τ ws).set i x := by
        intro ws
        induction ws with
        | nil => intro τ _; rfl
        | cons u us ih =>
          intro τ hn
          have hu : u ≠ i := fun q => hn (by rw [q]; exact List.mem_cons_self)
          have hs : i ∉ us := fun q => hn (List.mem_cons_of_mem _ q)
          show (wipe (τ.set i x) us).set u none = ((wipe τ us).set u none).set i x
          rw [ih τ hs, List.set_comm _ _ hu.symm]
      rw [aux vs σ z, List.set_set]
theorem wipe_wipe {σ : L2.St} {vs : List Nat} : ∀ {ws : List Nat}, (∀ i ∈ ws, i ∈ vs) → wipe (wipe σ ws) vs = wipe σ vs
  | [], _ => rfl
  | w :: ws, h => by
    show wipe ((wipe σ ws).set w none) vs = wipe σ vs
    rw [wipe_set (h w List.mem_cons_self), wipe_wipe fun i hi => h i (List.mem_cons_of_mem _ hi)]

section
variable (K : PySem.W.Frag)
/-- a target takes the data d: what is known afterwards; only the slots vs have changed -/
def GD (g : TG) (Γ : List G) (d : PyData) (vs : List Nat) (Δ : List G) : Prop := ∀ Hd0 H0 σ Hd H v, En K Hd0 H0 Γ σ Hd H → Dt K Hd v d → ∀ Q : L2.St → Hp → Prop, (∀ σ', En K Hd0 H0 Δ σ' Hd H → wipe σ' vs = wipe σ vs → Q σ' H) → g v σ H Q
def GDs (g : TGs) (Γ : List G) (ds : List PyData) (vs : List Nat) (Δ : List G) : Prop := ∀ Hd0 H0 σ Hd H ws, En K Hd0 H0 Γ σ Hd H → DtA K Hd ws ds → ∀ Q : L2.St → Hp → Prop, (∀ σ', En K Hd0 H0 Δ σ' Hd H → wipe σ' vs = wipe σ vs → Q σ' H) → g ws σ H Q
/-- an iterator hands out the data ds, one behind another -/
def ItOk (J : It) (Hd1 : Hp) (ds : List PyData) : Prop := ∀ Hd' H', Ex Hd1 Hd' → Ex Hd' H' → J.stop ds.length H' ∧ ∀ i d, ds[i]? = some d → J.go i H' ∧ ∀ x H'', J.yld i H' x H'' → ∃ Hd'', Ext Hd' H' Hd'' H'' ∧ Dt K Hd'' x d
def EI (wi : TI) (Γ : List G) (ds : List PyData) : Prop := ∀ Hd0 H0 σ Hd H, En K Hd0 H0 Γ σ Hd H → ∀ R : It → Hp → Prop, (∀ J Hd1 H1, Ext Hd H Hd1 H1 → ItOk K J Hd1 ds → R J H1) → wi σ H R
end
section
variable {K : PySem.W.Frag} {Γ Δ Θ : List G} {ta tb tc te tl : TE} {tt tu : TT} {r : R2} {d e x y z : PyData} {ds es xs ys : List PyData} {b c : Bool} {g : TG} {gs : TGs} {vs : List Nat}
theorem gd_name {i : Nat} (h : i ∈ vs) : GD K (gName i) Γ d vs (Γ.set i (.dat d)) := fun _ _ σ Hd H v e hd Q q => q _ (e.set hd) (wipe_set h)
theorem gds_nil : GDs K gNil Γ [] vs Γ := fun _ _ σ Hd H ws e hd Q q => by
  cases hd
  exact ⟨rfl, q σ e rfl⟩
theorem gds_cons (h : GD K g Γ d vs Δ) (hs : GDs K gs Δ ds vs Θ) : GDs K (gCons g gs) Γ (d :: ds) vs Θ := fun _ _ σ Hd H ws e hd Q q => by
  cases hd with
  | cons h1 h2 => exact ⟨_, _, rfl, h _ _ σ Hd H _ e h1 _ fun σ1 e1 w1 => hs _ _ σ1 Hd H _ e1 h2 Q fun σ2 e2 w2 => q σ2 e2 (w2.trans w1)⟩
theorem gd_tup {n : Nat} (h : GDs K gs Γ ds vs Δ) (hn : ds.length = n) : GD K (gTup K n gs) Γ (.tuple ds) vs Δ := fun _ _ σ Hd H v e hd Q q => by
  cases hd with
  | tup h1 h2 => exact ⟨_, _, rfl, SqT.of (e.x.i _ _ h1), by rw [h2.length, hn], h _ _ σ Hd H _ e h2 Q q⟩
/-- a pair of two names -/
theorem gd_two {i j : Nat} (hi : i ∈ vs) (hj : j ∈ vs) : GD K (gTup K 2 (gCons (gName i) (gCons (gName j) gNil))) Γ (.tuple [x, y]) vs ((Γ.set i (.dat x)).set j (.dat y)) :=
  gd_tup (gds_cons (gd_name hi) (gds_cons (gd_name hj) gds_nil)) rfl

/-! ### iterators -/
theorem ei_list (h : ED K tl Γ (.list ds)) : EI K (iList K tl) Γ ds := fun _ _ σ Hd H e R q => h _ _ σ Hd H e _ fun v Hd1 H1 x1 d1 => by
  cases d1 with
  | lst h1 h2 =>
    refine ⟨_, rfl, ⟨_, SqL.of (x1.i _ _ h1)⟩, q _ Hd1 H1 x1 fun Hd' H' e1 e2 => ?_⟩
    have hl := SqL.of (K := K) (e2 _ _ (e1 _ _ h1))
    refine ⟨⟨_, hl, by rw [h2.length]; exact Nat.le_refl _⟩, fun i d hd => ?_⟩
    obtain ⟨u, g1, g2⟩ := h2.got hd
    exact ⟨⟨_, u, hl, g1⟩, fun x H'' ⟨eH, y⟩ => by
      have z := y _ hl
      rw [g1] at z
      cases z
      subst eH
      exact ⟨Hd', .refl e2, g2.mono e1⟩⟩
theorem ei_tup (h : ED K tl Γ (.tuple ds)) : EI K (iTup K tl) Γ ds := fun _ _ σ Hd H e R q => h _ _ σ Hd H e _ fun v Hd1 H1 x1 d1 => by
  cases d1 with
  | tup h1 h2 =>
    refine ⟨_, rfl, ⟨_, SqT.of (x1.i _ _ h1)⟩, q _ Hd1 H1 x1 fun Hd' H' e1 e2 => ?_⟩
    have hl := SqT.of (K := K) (e2 _ _ (e1 _ _ h1))
    refine ⟨⟨_, hl, by rw [h2.length]; exact Nat.le_refl _⟩, fun i d hd => ?_⟩
    obtain ⟨u, g1, g2⟩ := h2.got hd
    exact ⟨⟨_, u, hl, g1⟩, fun x H'' ⟨eH, y⟩ => by
      have z := y _ hl
      rw [g1] at z
      cases z
      subst eH
      exact ⟨Hd', .refl e2, g2.mono e1⟩⟩
theorem ei_rng1 {ta : TA} {n : Int} (h : EA K ta Γ [.int n]) (hn : n ≤ 100000) (h0 : -100000 ≤ n := by omega) : EI K (iRng1 ta) Γ ((List.range n.toNat).map fun (k : Nat) => .int (k : Int)) := fun _ _ σ Hd H e R q => h _ _ σ Hd H e _ fun v Hd1 H1 x1 d1 => by
  cases d1 with
  | cons d1 d2 =>
    cases d1
    cases d2
    refine ⟨n, rfl, by omega, by omega, q _ Hd1 H1 x1 fun Hd' H' e1 e2 => ⟨by simp [Itr]; omega, fun i d hd => ?_⟩⟩
    rw [List.getElem?_map] at hd
    by_cases hi : i < n.toNat
    · rw [List.getElem?_range hi] at hd
      cases hd
      refine ⟨hi, fun x H'' ⟨eH, ex⟩ => ?_⟩
      subst eH ex
      refine ⟨Hd', .refl e2, ?_⟩
      rw [Int.zero_add]
      exact .int _
    · rw [List.getElem?_eq_none (by simpa using hi)] at hd
      cases hd
theorem ei_str {s : Str} (h : ED K te Γ (.str s)) : EI K (iStr te) Γ (s.cps.toList.map fun c => .str ⟨#[c]⟩) := fun _ _ σ Hd H e R q => h _ _ σ Hd H e _ fun v Hd1 H1 x1 d1 => by
  cases d1
  refine ⟨s, rfl, q _ Hd1 H1 x1 fun Hd' H' e1 e2 => ⟨by simp [Its], fun i d hd => ?_⟩⟩
  rw [List.getElem?_map] at hd
  cases hc : s.cps.toList[i]? with
  | none => rw [hc] at hd; cases hd
  | some c =>
    rw [hc] at hd
    cases hd
    have hi : i < s.cps.size := by
      have := (List.getElem?_eq_some_iff.mp hc).1
      simpa using this
    refine ⟨hi, fun x H'' ⟨eH, c', hc', ex⟩ => ?_⟩
    subst eH ex
    have : c' = c := by
      have h2 : s.cps[i]? = some c := by simpa using hc
      rw [h2] at hc'
      exact (Option.some.inj hc').symm
    subst this
    exact ⟨Hd', .refl e2, .str _⟩
/-- pairs of the items of two rows -/
def zipD (xs ys : List PyData) : List PyData := (xs.zip ys).map fun p => .tuple [p.1, p.2]
theorem zipD_get {i : Nat} (h : (zipD xs ys)[i]? = some d) : ∃ x y, xs[i]? = some x ∧ ys[i]? = some y ∧ d = .tuple [x, y] := by
  unfold zipD at h
  rw [List.getElem?_map] at h
  cases hp : (xs.zip ys)[i]? with
  | none => rw [hp] at h; cases h
  | some p =>
    rw [hp] at h
    cases h
    obtain ⟨h1, h2⟩ := List.getElem?_zip_eq_some.mp hp
    exact ⟨p.1, p.2, h1, h2, rfl⟩
theorem zipD_len : (zipD xs ys).length = min xs.length ys.length := by
  unfold zipD
  rw [List.length_map, List.length_zip]
theorem ei_zipT {ta : TA} (h : EA K ta Γ [.tuple xs, .tuple ys]) : EI K (iZipA K ta) Γ (zipD xs ys) := fun _ _ σ Hd H e R q => h _ _ σ Hd H e _ fun v Hd1 H1 x1 d1 => by
  cases d1 with
  | cons d1 d2 =>
    cases d2 with
    | cons d2 d3 =>
      cases d3
      cases d1 with
      | tup h1 h2 => cases d2 with
        | tup k1 k2 =>
          refine ⟨_, _, _, _, rfl, .inr ⟨SqT.of (x1.i _ _ h1), SqT.of (x1.i _ _ k1), q _ Hd1 H1 x1 fun Hd' H' e1 e2 => ?_⟩⟩
          have hl := SqT.of (K := K) (e2 _ _ (e1 _ _ h1))
          have kl := SqT.of (K := K) (e2 _ _ (e1 _ _ k1))
          refine ⟨⟨_, _, hl, kl, ?_⟩, fun i d hd => ?_⟩
          · rw [h2.length, k2.length, zipD_len]
            omega
          · obtain ⟨x, y, hx, hy, rfl⟩ := zipD_get hd
            obtain ⟨u, g1, g2⟩ := h2.got hx
            obtain ⟨w, g3, g4⟩ := k2.got hy
            refine ⟨⟨_, _, u, w, hl, kl, g1, g3⟩, fun x H'' ⟨T, x', y', ex, nT, eH, q1, q2⟩ => ?_⟩
            have z1 := q1 _ hl
            have z2 := q2 _ kl
            rw [g1] at z1
            rw [g3] at z2
            cases z1
            cases z2
            subst ex eH
            have nT' := Evl.fresh_back e2 nT
            exact ⟨upd Hd' T (.tup [u, w]), (Ext.refl e2).new nT, .tup upd_same (.cons ((g2.mono e1).mono (Ex.new nT')) (.cons ((g4.mono e1).mono (Ex.new nT')) .nil))⟩
theorem ei_zipL {ta : TA} (h : EA K ta Γ [.list xs, .list ys]) : EI K (iZipA K ta) Γ (zipD xs ys) := fun _ _ σ Hd H e R q => h _ _ σ Hd H e _ fun v Hd1 H1 x1 d1 => by
  cases d1 with
  | cons d1 d2 =>
    cases d2 with
    | cons d2 d3 =>
      cases d3
      cases d1 with
      | lst h1 h2 => cases d2 with
        | lst k1 k2 =>
          refine ⟨_, _, _, _, rfl, .inl ⟨SqL.of (x1.i _ _ h1), SqL.of (x1.i _ _ k1), q _ Hd1 H1 x1 fun Hd' H' e1 e2 => ?_⟩⟩
          have hl := SqL.of (K := K) (e2 _ _ (e1 _ _ h1))
          have kl := SqL.of (K := K) (e2 _ _ (e1 _ _ k1))
          refine ⟨⟨_, _, hl, kl, ?_⟩, fun i d hd => ?_⟩
          · rw [h2.length, k2.length, zipD_len]
            omega
          · obtain ⟨x, y, hx, hy, rfl⟩ := zipD_get hd
            obtain ⟨u, g1, g2⟩ := h2.got hx
            obtain ⟨w, g3, g4⟩ := k2.got hy
            refine ⟨⟨_, _, u, w, hl, kl, g1, g3⟩, fun x H'' ⟨T, x', y', ex, nT, eH, q1, q2⟩ => ?_⟩
            have z1 := q1 _ hl
            have z2 := q2 _ kl
            rw [g1] at z1
            rw [g3] at z2
            cases z1
            cases z2
            subst ex eH
            have nT' := Evl.fresh_back e2 nT
            exact ⟨upd Hd' T (.tup [u, w]), (Ext.refl e2).new nT, .tup upd_same (.cons ((g2.mono e1).mono (Ex.new nT')) (.cons ((g4.mono e1).mono (Ex.new nT')) .nil))⟩
def enumD (xs : List PyData) : List PyData := zipD ((List.range xs.length).map fun (k : Nat) => .int (k : Int)) xs
theorem ei_enum {ta : TA} (h : EA K ta Γ [.list xs]) : EI K (iEnum K ta) Γ (enumD xs) := fun _ _ σ Hd H e R q => h _ _ σ Hd H e _ fun v Hd1 H1 x1 d1 => by
  cases d1 with
  | cons d1 d2 =>
    cases d2
    cases d1 with
    | lst h1 h2 =>
      refine ⟨_, _, rfl, SqL.of (x1.i _ _ h1), q _ Hd1 H1 x1 fun Hd' H' e1 e2 => ?_⟩
      have hl := SqL.of (K := K) (e2 _ _ (e1 _ _ h1))
      refine ⟨⟨_, hl, ?_⟩, fun i d hd => ?_⟩
      · rw [h2.length]
        unfold enumD
        rw [zipD_len, List.length_map, List.length_range]
        omega
      · obtain ⟨x, y, hx, hy, rfl⟩ := zipD_get hd
        obtain ⟨w, g3, g4⟩ := h2.got hy
        have ex : x = .int (i : Int) := by
          rw [List.getElem?_map] at hx
          have hi : i < xs.length := (List.getElem?_eq_some_iff.mp hy).1
          rw [List.getElem?_range hi] at hx
          exact (Option.some.inj hx).symm
        subst ex
        refine ⟨⟨_, w, hl, g3⟩, fun x H'' ⟨T, x', ex, nT, eH, q1⟩ => ?_⟩
        have z1 := q1 _ hl
        rw [g3] at z1
        cases z1
        subst ex eH
        have nT' := Evl.fresh_back e2 nT
        exact ⟨upd Hd' T (.tup [.int (i : Nat), w]), (Ext.refl e2).new nT, .tup upd_same (.cons (.int _) (.cons ((g4.mono e1).mono (Ex.new nT')) .nil))⟩

/-! ### a list comprehension -/
theorem take_filter_succ {α β : Type} {p : α → Bool} {f : α → β} {l : List α} {i : Nat} {d : α} (h : l[i]? = some d) :
    ((l.take (i + 1)).filter p).map f = ((l.take i).filter p).map f ++ (if p d = true then [f d] else []) := by
  rw [List.take_add_one, h, List.filter_append, List.map_append]
  show _ ++ List.map f (List.filter p [d]) = _
  by_cases z : p d = true
  · rw [if_pos z]; simp [z]
  · rw [if_neg z]; simp [z]
theorem ef_lc {wi : TI} {p : PyData → Bool} {f : PyData → PyData} (hi : EI K wi Γ ds) (hl : ds.length ≤ 100000)
    (ht : ∀ d ∈ ds, ∃ Δ, GD K g (wipeG Γ vs) d vs Δ ∧ ET K tt Δ (p d) ∧ (p d = true → ED K te Δ (f d))) : EF K (tLc wi g tt te vs) Γ ((ds.filter p).map f) := by
  intro Hd0 H0 σ Hd H e Q q
  refine hi _ _ σ Hd H e _ fun J Hd1 H1 x1 ok D hD => ?_
  have nD : H D = none := Evl.fresh_back x1.h hD
  have nD1 : Hd1 D = none := Evl.fresh_back x1.i hD
  refine ⟨fun i m G => m = ds.length - i ∧ i ≤ ds.length ∧ ∃ Hd2 acc, Ext Hd1 H1 Hd2 G ∧ Hd2 D = none ∧ G D = some (.lst acc) ∧ DtA K Hd2 acc (((ds.take i).filter p).map f),
    ⟨ds.length, rfl, Nat.zero_le _, Hd1, [], (Ext.refl x1.i).mut hD nD1, nD1, upd_same, .nil⟩, ?_⟩
  rintro i m G ⟨rfl, hle, Hd2, acc, x2, n2, a2, t2⟩
  obtain ⟨st, go⟩ := ok Hd2 G x2.d x2.i
  by_cases hlt : i < ds.length
  · have hd : ds[i]? = some ds[i] := by simp [hlt]
    obtain ⟨gi, yl⟩ := go i _ hd
    refine .inr ⟨gi, fun G' => ∃ Hd2 acc, Ext Hd1 H1 Hd2 G' ∧ Hd2 D = none ∧ G' D = some (.lst acc) ∧ DtA K Hd2 acc (((ds.take (i + 1)).filter p).map f), fun G' w => ⟨ds.length - (i + 1), by omega, rfl, hlt, w⟩, fun x H3 y3 => ?_⟩
    obtain ⟨Hd3, x3, d3⟩ := yl x H3 y3
    obtain ⟨Δ, hg, htt, hte⟩ := ht _ (List.getElem_mem hlt)
    have x13 := x2.trans x3
    have n3 : Hd3 D = none := x3.f _ _ n2 a2
    have a3 := x3.h _ _ a2
    refine hg _ _ _ Hd3 H3 x ((e.ext (x1.trans x13)).wipe vs) d3 _ fun σ2 e2 w2 => ⟨w2.trans (wipe_wipe fun _ z => z), ?_⟩
    refine htt _ _ σ2 Hd3 H3 e2 _ fun Hd4 H4 x4 => ?_
    have n4 : Hd4 D = none := x4.f _ _ n3 a3
    have a4 := x4.h _ _ a3
    have l4 : acc.length < sizeLine := by
      have l0 := t2.length
      rw [List.length_map] at l0
      have l1 := List.length_filter_le p (ds.take i)
      rw [List.length_take] at l1
      have l2 : acc.length < 100000 := by omega
      exact Nat.lt_of_lt_of_le l2 (by decide)
    rw [take_filter_succ hd]
    by_cases z : p ds[i] = true
    · rw [if_pos z, if_pos z]
      refine hte z _ _ σ2 Hd4 H4 (e2.ext x4) _ fun y Hd5 H5 x5 d5 => ⟨acc, x5.h _ _ a4, l4, Hd5, _, ((x13.trans (x4.trans x5)).mut hD (x5.f _ _ n4 a4)), x5.f _ _ n4 a4, upd_same, ?_⟩
      exact (t2.mono (x3.d.trans (x4.d.trans x5.d))).append (.cons d5 .nil)
    · rw [if_neg z, if_neg z, List.append_nil]
      exact ⟨Hd4, acc, x13.trans x4, n4, a4, t2.mono (x3.d.trans x4.d)⟩
  · have ei : i = ds.length := by omega
    subst ei
    rw [List.take_length] at t2
    exact .inl ⟨st, q D acc Hd2 G (x1.trans x2) nD n2 a2 t2⟩
theorem et_yes : ET K tYes Γ true := fun _ _ σ Hd H e Q q => q Hd H (.refl e.x.i)
/-- no test -/
theorem ef_lc0 {wi : TI} {f : PyData → PyData} (hi : EI K wi Γ ds) (hl : ds.length ≤ 100000)
    (ht : ∀ d ∈ ds, ∃ Δ, GD K g (wipeG Γ vs) d vs Δ ∧ ED K te Δ (f d)) : EF K (tLc wi g tYes te vs) Γ (ds.map f) := by
  have h := ef_lc (p := fun _ => true) (f := f) hi hl fun d hd => let ⟨Δ, a, b⟩ := ht d hd; ⟨Δ, a, et_yes, fun _ => b⟩
  have z : ds.filter (fun _ => true) = ds := List.filter_eq_self.mpr fun _ _ => rfl
  rw [z] at h
  exact h
end
end DL

namespace DL
open PySem PySem.Spec PyProof.Rows L2
open Evl (Ex)
open RZ

/-! ### statements -/
inductive Out where
  | nx (Γ : List G) | rt (d : PyData)
def OutOk (K : PySem.W.Frag) (Hd0 H0 Hd : Hp) (D : Ends) : Out → Prop
  | .nx Γ => ∀ σ' Hd' H', En K Hd0 H0 Γ σ' Hd' H' → Ex Hd Hd' → D.nx σ' H'
  | .rt d => ∀ v Hd' H', Ext Hd0 H0 Hd' H' → Dt K Hd' v d → D.rt v H'
theorem OutOk.mono {K : PySem.W.Frag} {Hd0 H0 Hd Hd1 : Hp} {D : Ends} {o : Out} (h : OutOk K Hd0 H0 Hd D o) (e : Ex Hd Hd1) : OutOk K Hd0 H0 Hd1 D o := by
  cases o with
  | nx Γ => exact fun σ' Hd' H' n x => h σ' Hd' H' n (e.trans x)
  | rt d => exact h
def SD (K : PySem.W.Frag) (ts : TS) (Γ : List G) (o : Out) : Prop := ∀ Hd0 H0 σ Hd H, En K Hd0 H0 Γ σ Hd H → ∀ D : Ends, OutOk K Hd0 H0 Hd D o → ts D σ H
section
variable {K : PySem.W.Frag} {Γ Δ Θ : List G} {ta tb tc te tl : TE} {tt tu : TT} {d e x y z : PyData} {ds es xs ys : List PyData} {b c : Bool} {g : TG} {gs : TGs} {vs : List Nat} {t u : TS} {o : Out} {i j : Nat}
theorem sd_seq (h : SD K t Γ (.nx Δ)) (k : SD K u Δ o) : SD K (tSeq t u) Γ o := fun _ _ σ Hd H e D q =>
  h _ _ σ Hd H e _ fun σ' Hd' H' e' x => k _ _ σ' Hd' H' e' D (q.mono x)
theorem sd_seqR (h : SD K t Γ (.rt d)) : SD K (tSeq t u) Γ (.rt d) := fun _ _ σ Hd H e D q => h _ _ σ Hd H e _ q
theorem sd_next : SD K tNext Γ (.nx Γ) := fun _ _ σ Hd H e D q => q σ Hd H e (.refl _)
theorem sd_asg (h : ED K te Γ d) (hg : GD K g Γ d vs Δ) : SD K (tAsg te g) Γ (.nx Δ) := fun _ _ σ Hd H e D q =>
  h _ _ σ Hd H e _ fun v Hd1 H1 x1 d1 => hg _ _ σ Hd1 H1 v (e.ext x1) d1 _ fun σ' e' _ => q σ' Hd1 H1 e' x1.d
theorem sd_set (h : ED K te Γ d) : SD K (tAsg te (gName i)) Γ (.nx (Γ.set i (.dat d))) := sd_asg h (gd_name (vs := [i]) (List.mem_singleton.mpr rfl))
/-- a new list that the def keeps for itself -/
theorem En.setOwn {Hd0 H0 Hd H : Hp} {σ : L2.St} (e : En K Hd0 H0 Γ σ Hd H) {a : Addr} {ws : List V} (n0 : H0 a = none) (n1 : Hd a = none) (h : H a = some (.lst ws)) (hd : DtA K Hd ws ds)
    (new : ∀ (j : Nat) (es : List PyData), Γ[j]? = some (G.own es) → σ[j]? ≠ some (some (V.ref a))) : En K Hd0 H0 (Γ.set i (.own ds)) (σ.set i (some (.ref a))) Hd H := by
  refine ⟨e.x, by simp [e.l], fun j g hg => ?_, fun j k fs es w hjk h1 h2 w1 w2 => ?_⟩
  · by_cases z : i = j
    · subst z
      have q := get_set_eq hg
      subst q
      have hi : i < Γ.length := by
        have := (List.getElem?_eq_some_iff.mp hg).1
        simpa using this
      exact ⟨a, ws, by simp [e.l ▸ hi], n0, n1, h, hd⟩
    · rw [List.getElem?_set_ne z] at hg
      have q := e.g j g hg
      cases g with
      | any => trivial
      | val v => show (σ.set i _)[j]? = _; rw [List.getElem?_set_ne z]; exact q
      | dat d => obtain ⟨v, h1, h2⟩ := q; exact ⟨v, by rw [List.getElem?_set_ne z]; exact h1, h2⟩
      | own ds => obtain ⟨a, vs, h1, h2⟩ := q; exact ⟨a, vs, by rw [List.getElem?_set_ne z]; exact h1, h2⟩
      | ownD ds => obtain ⟨a, vs, h1, h2⟩ := q; exact ⟨a, vs, by rw [List.getElem?_set_ne z]; exact h1, h2⟩
  · have slot : ∀ (m : Nat) (l : G), (Γ.set i (.own ds))[m]? = some l → m = i → (σ.set i (some (.ref a)))[m]? = some (some (.ref a)) := fun m l hm z => by
      subst z
      have hi : m < Γ.length := by
        have := (List.getElem?_eq_some_iff.mp hm).1
        simpa using this
      simp [e.l ▸ hi]
    by_cases zj : j = i
    · have s1 := slot j _ h1 zj
      have nk : i ≠ k := fun z => hjk (zj.trans z)
      rw [List.getElem?_set_ne nk] at h2 w2
      rw [s1] at w1
      rw [← w1] at w2
      exact new k es h2 w2
    · by_cases zk : k = i
      · have s2 := slot k _ h2 zk
        have nj : i ≠ j := fun z => zj z.symm
        rw [List.getElem?_set_ne nj] at h1 w1
        rw [s2] at w2
        rw [← w2] at w1
        exact new j fs h1 w1
      · have nj : i ≠ j := fun z => zj z.symm
        have nk : i ≠ k := fun z => zk z.symm
        rw [List.getElem?_set_ne nj] at h1 w1
        rw [List.getElem?_set_ne nk] at h2 w2
        exact e.o j k fs es w hjk h1 h2 w1 w2
theorem sd_own (h : EF K te Γ ds) : SD K (tAsg te (gName i)) Γ (.nx (Γ.set i (.own ds))) := fun _ _ σ Hd H e D q =>
  h _ _ σ Hd H e _ fun a ws Hd1 H1 x1 n1 n2 h1 d1 => q _ Hd1 H1 ((e.ext x1).setOwn (Evl.fresh_back e.x.h n1) n2 h1 d1 fun j es hj hs => by
    obtain ⟨b, vs, g1, _, _, g4, _⟩ := e.own hj
    rw [hs] at g1
    cases g1
    rw [n1] at g4
    cases g4) x1.d
/-- an own list becomes data: nobody changes it any more -/
theorem sd_freeze (hi : Γ[i]? = some (.own ds)) (h : SD K t (Γ.set i (.dat (.list ds))) o) : SD K t Γ o := fun Hd0 H0 σ Hd H e D q => by
  obtain ⟨a, ws, s1, n0, n1, h1, d1⟩ := e.own hi
  have xe : Ext Hd0 H0 (upd Hd a (.lst ws)) H := e.x.take n0 n1 h1
  have en : En K Hd0 H0 (Γ.set i (.dat (.list ds))) σ (upd Hd a (.lst ws)) H := by
    refine ⟨xe, by simp [e.l], fun j g hg => ?_, fun j k fs es w hjk g1 g2 => ?_⟩
    · by_cases z : i = j
      · subst z
        have q := get_set_eq hg
        subst q
        exact ⟨_, s1, .lst upd_same (d1.mono (Ex.new n1))⟩
      · rw [List.getElem?_set_ne z] at hg
        have q := e.g j g hg
        cases g with
        | any => trivial
        | val v => exact q
        | dat d => obtain ⟨v, k1, k2⟩ := q; exact ⟨v, k1, k2.mono (Ex.new n1)⟩
        | own es =>
          obtain ⟨b, vs, k1, k0, k2, k3, k4⟩ := q
          have nb : b ≠ a := fun zb => by
            subst zb
            exact e.o i j ds es _ z hi hg s1 k1
          exact ⟨b, vs, k1, k0, by rw [upd_ne nb]; exact k2, k3, k4.mono (Ex.new n1)⟩
        | ownD es =>
          obtain ⟨b, o, k1, k0, k2, k3, k4⟩ := q
          have nb : b ≠ a := fun zb => by
            subst zb
            rw [h1] at k3
            cases k3
            exact k4.nl rfl
          exact ⟨b, o, k1, k0, by rw [upd_ne nb]; exact k2, k3, k4.mono (Ex.new n1)⟩
    · have nj : i ≠ j := fun z => by subst z; exact nomatch get_set_eq g1
      have nk : i ≠ k := fun z => by subst z; exact nomatch get_set_eq g2
      rw [List.getElem?_set_ne nj] at g1
      rw [List.getElem?_set_ne nk] at g2
      exact e.o j k fs es w hjk g1 g2
  exact h _ _ σ _ H en D (q.mono (Ex.new n1))
theorem tyV_list {H : Hp} {p : Addr} {xs : List V} (h : H p = some (.lst xs)) : tyV K "list" (.ref p) H := .inl ⟨rfl, xs, SqL.of h⟩
/-- name.append(e) of an own list -/
theorem sd_app (hi : Γ[i]? = some (.own ds)) (h : ED K te Γ d) (hl : ds.length < 100000) : SD K (tDrop (tBM K "list" rAppend (tVar i) (tCons te tNil))) Γ (.nx (Γ.set i (.own (ds ++ [d])))) := fun Hd0 H0 σ Hd H e D q => by
  obtain ⟨a, ws, s1, n0, n1, h1, d1⟩ := e.own hi
  refine ⟨_, s1, tyV_list h1, ?_⟩
  refine h _ _ σ Hd H e _ fun v Hd1 H1 x1 dv => ?_
  have e1 := e.ext x1
  have h2 := x1.h _ _ h1
  have n2 := x1.f _ _ n1 h1
  refine ⟨a, ws, v, rfl, rfl, h2, Nat.lt_of_lt_of_le (by rw [d1.length]; exact hl) (by decide : 100000 ≤ sizeLine), ?_⟩
  have dn : DtA K Hd1 (ws ++ [v]) (ds ++ [d]) := (d1.mono x1.d).append (.cons dv .nil)
  refine q σ Hd1 (upd H1 a (.lst (ws ++ [v]))) ⟨e1.x.mut n0 n2, by simp [e1.l], fun j g hg => ?_, fun j k fs es w hjk g1 g2 => ?_⟩ x1.d
  · by_cases z : i = j
    · subst z
      have q := get_set_eq hg
      subst q
      exact ⟨a, _, s1, n0, n2, upd_same, dn⟩
    · rw [List.getElem?_set_ne z] at hg
      have q := e1.g j g hg
      cases g with
      | any => trivial
      | val v => exact q
      | dat d => exact q
      | own es =>
        obtain ⟨b, vs, k1, k0, k2, k3, k4⟩ := q
        have nb : b ≠ a := fun zb => by
          subst zb
          exact e1.o i j ds es _ z hi hg s1 k1
        exact ⟨b, vs, k1, k0, k2, by rw [upd_ne nb]; exact k3, k4⟩
      | ownD es =>
        obtain ⟨b, o, k1, k0, k2, k3, k4⟩ := q
        have nb : b ≠ a := fun zb => by
          subst zb
          rw [h2] at k3
          cases k3
          exact k4.nl rfl
        exact ⟨b, o, k1, k0, k2, by rw [upd_ne nb]; exact k3, k4⟩
  · have aux : ∀ (m : Nat) (l : List PyData), (Γ.set i (.own (ds ++ [d])))[m]? = some (G.own l) → ∃ l' : List PyData, Γ[m]? = some (G.own l') := fun m l hm => by
      by_cases z : i = m
      · subst z; exact ⟨_, hi⟩
      · rw [List.getElem?_set_ne z] at hm; exact ⟨_, hm⟩
    obtain ⟨l1, a1⟩ := aux j _ g1
    obtain ⟨l2, a2⟩ := aux k _ g2
    exact e1.o j k l1 l2 w hjk a1 a2
theorem sd_ret (h : ED K te Γ d) : SD K (tRet te) Γ (.rt d) := fun _ _ σ Hd H e D q => h _ _ σ Hd H e _ fun v Hd1 H1 x1 d1 => q v Hd1 H1 (e.x.trans x1) d1
theorem sd_if (h : ET K tt Γ b) (h1 : b = true → SD K t Γ o) (h2 : b = false → SD K u Γ o) : SD K (tIfS tt t u) Γ o := fun _ _ σ Hd H e D q =>
  h _ _ σ Hd H e _ fun Hd1 H1 x1 => by
    cases b with
    | true => exact iteT (h1 rfl _ _ σ Hd1 H1 (e.ext x1) D (q.mono x1.d))
    | false => exact iteF (h2 rfl _ _ σ Hd1 H1 (e.ext x1) D (q.mono x1.d))
/-- if c: return ..; something behind -/
theorem sd_ifR {t' : TS} (h : ET K tt Γ b) (h1 : b = true → SD K t Γ o) (h2 : b = false → SD K t' Γ o) (ho : ∀ Δ, o ≠ .nx Δ) : SD K (tSeq (tIfS tt t tNext) t') Γ o := fun _ _ σ Hd H e D q =>
  h _ _ σ Hd H e _ fun Hd1 H1 x1 => by
    cases b with
    | true =>
      refine iteT (h1 rfl _ _ σ Hd1 H1 (e.ext x1) _ ?_)
      cases o with
      | nx Δ => exact absurd rfl (ho Δ)
      | rt d => exact q
    | false => exact iteF (h2 rfl _ _ σ Hd1 H1 (e.ext x1) D (q.mono x1.d))
/-- a loop without a way out -/
theorem sd_for {wi : TI} {tbody : TS} (Γs : Nat → List G) (h0 : Γs 0 = Γ) (hi : EI K wi Γ ds)
    (hb : ∀ k d, ds[k]? = some d → ∃ Δ vs, GD K g (Γs k) d vs Δ ∧ SD K tbody Δ (.nx (Γs (k + 1)))) : SD K (tFor wi g tbody) Γ (.nx (Γs ds.length)) := fun Hd0 H0 σ Hd H e D q =>
  hi _ _ σ Hd H e _ fun J Hd1 H1 x1 ok => by
    refine ⟨fun k m σ' H' => m = ds.length - k ∧ k ≤ ds.length ∧ ∃ Hd', Ex Hd1 Hd' ∧ En K Hd0 H0 (Γs k) σ' Hd' H', ⟨ds.length, rfl, Nat.zero_le _, Hd1, .refl _, by rw [h0]; exact e.ext x1⟩, ?_⟩
    rintro k m σ' H' ⟨rfl, hk, Hd', xd, en⟩
    obtain ⟨st, go⟩ := ok Hd' H' xd en.x.i
    by_cases hlt : k < ds.length
    · have hd : ds[k]? = some ds[k] := by simp [hlt]
      obtain ⟨gi, yl⟩ := go k _ hd
      refine .inr ⟨gi, fun σ'' H'' => ∃ Hd'', Ex Hd1 Hd'' ∧ En K Hd0 H0 (Γs (k + 1)) σ'' Hd'' H'', fun σ'' H'' w => ⟨ds.length - (k + 1), by omega, rfl, hlt, w⟩, fun x H2 y2 => ?_⟩
      obtain ⟨Hd2, x2, d2⟩ := yl x H2 y2
      obtain ⟨Δ, vs, hg, hs⟩ := hb k _ hd
      exact hg _ _ σ' Hd2 H2 x (en.ext x2) d2 _ fun σ2 e2 _ => hs _ _ σ2 Hd2 H2 e2 _ fun σ3 Hd3 H3 e3 x3 => ⟨Hd3, xd.trans (x2.d.trans x3), e3⟩
    · have ek : k = ds.length := by omega
      subst ek
      exact .inl ⟨st, q σ' Hd' H' en (x1.d.trans xd)⟩
/-- a loop that returns r at the first item of which stop is true -/
theorem sd_forS {wi : TI} {tbody : TS} {r : PyData} (stop : PyData → Bool) (Γs : Nat → List G) (h0 : Γs 0 = Γ) (hi : EI K wi Γ ds)
    (hb : ∀ k d, ds[k]? = some d → ∃ Δ vs, GD K g (Γs k) d vs Δ ∧ SD K tbody Δ (if stop d = true then .rt r else .nx (Γs (k + 1)))) :
    SD K (tFor wi g tbody) Γ (if ds.any stop = true then .rt r else .nx (Γs ds.length)) := fun Hd0 H0 σ Hd H e D q =>
  hi _ _ σ Hd H e _ fun J Hd1 H1 x1 ok => by
    refine ⟨fun k m σ' H' => m = ds.length - k ∧ k ≤ ds.length ∧ (ds.take k).any stop = false ∧ ∃ Hd', Ex Hd1 Hd' ∧ En K Hd0 H0 (Γs k) σ' Hd' H', ⟨ds.length, rfl, Nat.zero_le _, rfl, Hd1, .refl _, by rw [h0]; exact e.ext x1⟩, ?_⟩
    rintro k m σ' H' ⟨rfl, hk, ha, Hd', xd, en⟩
    obtain ⟨st, go⟩ := ok Hd' H' xd en.x.i
    by_cases hlt : k < ds.length
    · have hd : ds[k]? = some ds[k] := by simp [hlt]
      obtain ⟨gi, yl⟩ := go k _ hd
      refine .inr ⟨gi, fun σ'' H'' => (ds.take (k + 1)).any stop = false ∧ ∃ Hd'', Ex Hd1 Hd'' ∧ En K Hd0 H0 (Γs (k + 1)) σ'' Hd'' H'', fun σ'' H'' w => ⟨ds.length - (k + 1), by omega, rfl, hlt, w⟩, fun x H2 y2 => ?_⟩
      obtain ⟨Hd2, x2, d2⟩ := yl x H2 y2
      obtain ⟨Δ, vs, hg, hs⟩ := hb k _ hd
      refine hg _ _ σ' Hd2 H2 x (en.ext x2) d2 _ fun σ2 e2 _ => ?_
      by_cases z : stop ds[k] = true
      · rw [if_pos z] at hs
        have za : ds.any stop = true := List.any_eq_true.mpr ⟨_, List.getElem_mem hlt, z⟩
        rw [if_pos za] at q
        exact hs _ _ σ2 Hd2 H2 e2 _ q
      · rw [if_neg z] at hs
        refine hs _ _ σ2 Hd2 H2 e2 _ fun σ3 Hd3 H3 e3 x3 => ⟨?_, Hd3, xd.trans (x2.d.trans x3), e3⟩
        rw [List.take_add_one, hd, List.any_append, ha]
        simp [z]
    · have ek : k = ds.length := by omega
      subst ek
      rw [List.take_length] at ha
      rw [ha] at q
      exact .inl ⟨st, q σ' Hd' H' en (x1.d.trans xd)⟩
end

/-! ### the promise of a def that reads data alone -/
def spD (K : PySem.W.Frag) (n : Nat) (dom : List PyData → PyData → Prop) : Sp := fun vs H Q _ => vs.length = n ∧ ∃ Hd ds r, Ex Hd H ∧ DtA K Hd vs ds ∧ dom ds r ∧ ∀ v Hd' H', Ext Hd H Hd' H' → Dt K Hd' v r → Q v H'
def startG (N : List Str) (ds : List PyData) : List G := ds.map G.dat ++ List.replicate (N.length - ds.length) .any
section
variable {K : PySem.W.Frag} {Γ Δ Θ : List G} {ta : TA} {d r : PyData} {ds : List PyData} {t : TS} {n : Nat} {dom : List PyData → PyData → Prop}
theorem ed_call {E : XK} (h : EA K ta Γ ds) (hn : ds.length = n) (hd : dom ds r) : ED K (tCall (spD K n dom) [] E ta) Γ r := fun _ _ σ Hd H e Q q =>
  h _ _ σ Hd H e _ fun vs Hd1 H1 x1 d1 => by
    refine ⟨by rw [List.append_nil, d1.length, hn], Hd1, ds, r, x1.i, ?_, hd, fun v Hd' H' x2 dv => q v Hd' H' (x1.trans x2) dv⟩
    rw [List.append_nil]
    exact d1
theorem start_en {N : List Str} {vs : List V} {Hd H : Hp} (e : Ex Hd H) (h : DtA K Hd vs ds) : En K Hd H (startG N ds) (L2.start N vs) Hd H := by
  have hl := h.length
  refine ⟨.refl e, by simp [startG, L2.start, hl], fun i g hg => ?_, fun i j fs es w _ h1 _ _ => ?_⟩
  · unfold startG at hg
    by_cases hi : i < ds.length
    · rw [List.getElem?_append_left (by simpa using hi), List.getElem?_map, List.getElem?_eq_getElem hi] at hg
      cases hg
      obtain ⟨v, g1, g2⟩ := h.got (List.getElem?_eq_getElem hi)
      refine ⟨v, ?_, g2⟩
      unfold L2.start
      rw [List.getElem?_append_left (by simp; omega), List.getElem?_map, g1]
      rfl
    · rw [List.getElem?_append_right (by simpa using hi), List.getElem?_replicate] at hg
      split at hg
      · cases hg; trivial
      · cases hg
  · exfalso
    unfold startG at h1
    by_cases hi : i < ds.length
    · rw [List.getElem?_append_left (by simpa using hi), List.getElem?_map, List.getElem?_eq_getElem hi] at h1
      cases h1
    · rw [List.getElem?_append_right (by simpa using hi), List.getElem?_replicate] at h1
      split at h1
      · cases h1
      · cases h1
theorem run_d {N : List Str} {vs : List V} {Hd H : Hp} {Q : VK} (e : Ex Hd H) (h : DtA K Hd vs ds) (hs : SD K t (startG N ds) (.rt r)) (q : ∀ v Hd' H', Ext Hd H Hd' H' → Dt K Hd' v r → Q v H') :
    t { nx := fun _ H' => Q .non H', rt := Q } (L2.start N vs) H := hs _ _ _ _ _ (start_en e h) _ q
end
end DL

namespace DL
open PySem PySem.Spec PyProof.Rows L2
open Evl (Ex)
open RZ

section
variable {K : PySem.W.Frag} {Γ Δ Θ : List G} {ta tb tc te tl : TE} {tt tu : TT} {d e x y z : PyData} {ds es xs ys : List PyData} {b c : Bool}
/-! ### tuple(x), list(x), len(x), all(x) -/
def rTupOf (K : PySem.W.Frag) : List V → Hp → VK → Prop := fun xs H Q => ∃ p ys, xs = [.ref p] ∧ ((SqL K H p ys ∧ ∀ l, H l = none → Q (.ref l) (upd H l (.tup ys))) ∨ (SqT K H p ys ∧ Q (.ref p) H))
theorem ed_tupR (h : ER K te Γ ds) : ED K (tCB (rTupOf K) (tCons te tNil)) Γ (.tuple ds) := fun _ _ σ Hd H e Q q => h _ _ σ Hd H e _ fun a vs Hd1 H1 x1 h1 d1 =>
  ⟨a, vs, rfl, .inl ⟨SqL.of h1, fun l hl => q _ (upd Hd1 l (.tup vs)) _ (x1.new hl) (.tup upd_same (d1.mono (Ex.new (Evl.fresh_back x1.i hl))))⟩⟩
theorem ed_tupT (h : ED K te Γ (.tuple ds)) : ED K (tCB (rTupOf K) (tCons te tNil)) Γ (.tuple ds) := fun _ _ σ Hd H e Q q => h _ _ σ Hd H e _ fun v Hd1 H1 x1 d1 => by
  cases d1 with
  | tup h1 h2 => exact ⟨_, _, rfl, .inr ⟨SqT.of (x1.i _ _ h1), q _ Hd1 H1 x1 (.tup h1 h2)⟩⟩
def rListOf (K : PySem.W.Frag) : List V → Hp → VK → Prop := fun xs H Q => ∃ p ys, xs = [.ref p] ∧ (SqL K H p ys ∨ SqT K H p ys) ∧ ∀ l, H l = none → Q (.ref l) (upd H l (.lst ys))
theorem ef_listR (h : ER K te Γ ds) : EF K (tCB (rListOf K) (tCons te tNil)) Γ ds := fun _ _ σ Hd H e Q q => h _ _ σ Hd H e _ fun a vs Hd1 H1 x1 h1 d1 =>
  ⟨a, vs, rfl, .inl (SqL.of h1), fun l hl => q l vs Hd1 _ (x1.mut (Evl.fresh_back x1.h hl) (Evl.fresh_back x1.i hl)) (Evl.fresh_back x1.h hl) (Evl.fresh_back x1.i hl) upd_same d1⟩
theorem ef_listT (h : ED K te Γ (.tuple ds)) : EF K (tCB (rListOf K) (tCons te tNil)) Γ ds := fun _ _ σ Hd H e Q q => h _ _ σ Hd H e _ fun v Hd1 H1 x1 d1 => by
  cases d1 with
  | tup h1 h2 => exact ⟨_, _, rfl, .inr (SqT.of (x1.i _ _ h1)), fun l hl => q l _ Hd1 _ (x1.mut (Evl.fresh_back x1.h hl) (Evl.fresh_back x1.i hl)) (Evl.fresh_back x1.h hl) (Evl.fresh_back x1.i hl) upd_same h2⟩
def rLenOf (K : PySem.W.Frag) : List V → Hp → VK → Prop := fun xs H Q => ∃ p ys, xs = [.ref p] ∧ (SqL K H p ys ∨ SqT K H p ys) ∧ Q (.int ys.length) H
theorem ed_lenR (h : ER K te Γ ds) : ED K (tCB (rLenOf K) (tCons te tNil)) Γ (.int ds.length) := fun _ _ σ Hd H e Q q => h _ _ σ Hd H e _ fun a vs Hd1 H1 x1 h1 d1 =>
  ⟨a, vs, rfl, .inl (SqL.of h1), by rw [d1.length]; exact q _ Hd1 H1 x1 (.int _)⟩
theorem ed_lenT (h : ED K te Γ (.tuple ds)) : ED K (tCB (rLenOf K) (tCons te tNil)) Γ (.int ds.length) := fun _ _ σ Hd H e Q q => h _ _ σ Hd H e _ fun v Hd1 H1 x1 d1 => by
  cases d1 with
  | tup h1 h2 => exact ⟨_, _, rfl, .inr (SqT.of (x1.i _ _ h1)), by rw [h2.length]; exact q _ Hd1 H1 x1 (.int _)⟩
theorem ed_all {bs : List Bool} (h : ER K te Γ (bs.map PyData.bool)) : ED K (tCB (rAll K) (tCons te tNil)) Γ (.bool (bs.all id)) := fun _ _ σ Hd H e Q q => h _ _ σ Hd H e _ fun a vs Hd1 H1 x1 h1 d1 =>
  ⟨a, bs, rfl, SqL.of (by rw [h1, d1.ofBls]), q _ Hd1 H1 x1 (.bl _)⟩

/-! ### kinds -/
def tyD : PyData → String
  | .none => "NoneType"
  | .bool _ => "bool"
  | .int _ => "int"
  | .str _ => "str"
  | .list _ => "list"
  | .tuple _ => "tuple"
  | .dict _ => "dict"
theorem Dt.ty {H : Hp} {v : V} (h : Dt K H v d) : TyX K H v (.type (tyD d)) := by
  cases h with
  | non => exact .base .non
  | bl b => exact .base (.bl b)
  | int b => exact .base (.int b)
  | str b => exact .base (.str b)
  | lst h1 _ => exact .base (.lst h1)
  | tup h1 _ => exact .base (.tup h1)
  | dct h1 _ => exact .base (.dK h1)
  | dctT h1 _ _ => exact .base (.dT h1)
theorem TyX.up {H H' : Hp} {v : V} (e : Ex H H') (h : Dt K H v d) : TyX K H' v (.type (tyD d)) := (h.mono e).ty
theorem ed_isi {T : String} (h : ED K te Γ d) (hk : kitB (tyD d) T = some b) : ED K (tCB (rIsi K) (tCons te (tCons (tC (.ty T)) tNil))) Γ (.bool b) := fun _ _ σ Hd H e Q q => h _ _ σ Hd H e _ fun v Hd1 H1 x1 d1 =>
  ⟨v, .ty T, _, _, b, rfl, .ty T, TyX.up x1.i d1, kit_ty hk, q _ Hd1 H1 x1 (.bl b)⟩
theorem ed_isi2 {T U : String} {b1 b2 : Bool} (h : ED K te Γ d) (h1 : kitB (tyD d) T = some b1) (h2 : kitB (tyD d) U = some b2) :
    ED K (tCB (rIsiT K) (tCons te (tCons (tTup (tCons (tC (.ty T)) (tCons (tC (.ty U)) tNil))) tNil))) Γ (.bool (b1 || b2)) := fun _ _ σ Hd H e Q q => h _ _ σ Hd H e _ fun v Hd1 H1 x1 d1 =>
  ⟨(by show 2 ≤ sizeLine; decide), fun p hp => ⟨v, p, _, _, _, b1 || b2, rfl, upd_same, .cons (.ty T) (.cons (.ty U) .nil), TyX.up (x1.i.trans (Ex.new hp)) d1,
    kitAny_cons (kit_ty h1) (fun z => kitAny_cons (kit_ty h2) (fun w => by rw [z, w]; rfl) (fun w => by rw [w, Bool.or_true])) (fun z => by rw [z]; rfl),
    q _ Hd1 _ (x1.mut (Evl.fresh_back x1.h hp) (Evl.fresh_back x1.i hp)) (.bl _)⟩⟩
theorem kitB_eq {T : String} {b : Bool} (h : kitB (tyD d) T = some b) : kitB (tyD d) T = some b := h

/-! ### slices -/
theorem cut_dt {H : Hp} {vs : List V} {lo hi : Option Int} (h : DtA K H vs ds) : DtA K H (cutV vs lo hi) ((ds.drop (HT.sIx ds.length 0 lo)).take (HT.sIx ds.length ds.length hi - HT.sIx ds.length 0 lo)) := by
  unfold cutV
  rw [h.length]
  exact (h.drop _).take _
def cutD (ds : List PyData) (lo hi : Option Int) : List PyData := (ds.drop (HT.sIx ds.length 0 lo)).take (HT.sIx ds.length ds.length hi - HT.sIx ds.length 0 lo)
theorem eo_no : EO K tNoPart Γ none := fun _ _ σ Hd H e Q q => q Hd H (.refl e.x.i)
theorem eo_int {i : Int} (h : ED K te Γ (.int i)) : EO K (tPart te) Γ (some i) := fun _ _ σ Hd H e Q q => h _ _ σ Hd H e _ fun v Hd1 H1 x1 d1 => by
  cases d1
  exact ⟨i, rfl, q Hd1 H1 x1⟩
theorem ef_sl {tlo thi : TO} {lo hi : Option Int} (h : ED K te Γ (.list ds)) (h1 : EO K tlo Γ lo) (h2 : EO K thi Γ hi) : EF K (tSl (rSlL K) te tlo thi) Γ (cutD ds lo hi) := fun _ _ σ Hd H e Q q =>
  h _ _ σ Hd H e _ fun v Hd1 H1 x1 d1 => h1 _ _ σ Hd1 H1 (e.ext x1) _ fun Hd2 H2 x2 => h2 _ _ σ Hd2 H2 ((e.ext x1).ext x2) _ fun Hd3 H3 x3 => by
    cases d1 with
    | lst g1 g2 =>
      have x13 := x1.trans (x2.trans x3)
      exact ⟨_, _, rfl, SqL.of ((x2.trans x3).h _ _ (x1.i _ _ g1)), fun p hp => q p _ Hd3 _ (x13.mut (Evl.fresh_back x13.h hp) (Evl.fresh_back x13.i hp)) (Evl.fresh_back x13.h hp) (Evl.fresh_back x13.i hp) upd_same
        (cut_dt (g2.mono (x2.d.trans x3.d)))⟩
theorem cutD_all {lo hi : Option Int} (h : HT.sIx ds.length 0 lo = 0 ∧ HT.sIx ds.length ds.length hi = ds.length) : cutD ds lo hi = ds := by
  unfold cutD
  rw [h.1, h.2]
  simp
theorem ed_slT {tlo thi : TO} {lo hi : Option Int} (h : ED K te Γ (.tuple ds)) (h1 : EO K tlo Γ lo) (h2 : EO K thi Γ hi) : ED K (tSl (rSlA K) te tlo thi) Γ (.tuple (cutD ds lo hi)) := fun _ _ σ Hd H e Q q =>
  h _ _ σ Hd H e _ fun v Hd1 H1 x1 d1 => h1 _ _ σ Hd1 H1 (e.ext x1) _ fun Hd2 H2 x2 => h2 _ _ σ Hd2 H2 ((e.ext x1).ext x2) _ fun Hd3 H3 x3 => by
    cases d1 with
    | tup g1 g2 =>
      have x13 := x1.trans (x2.trans x3)
      have xd := x2.d.trans x3.d
      refine ⟨_, _, rfl, SqT.of ((x2.trans x3).h _ _ (x1.i _ _ g1)), fun w => ?_, fun _ p hp => q _ (upd Hd3 p _) _ (x13.new hp) (.tup upd_same ((cut_dt (g2.mono xd)).mono (Ex.new (Evl.fresh_back x13.i hp))))⟩
      rw [g2.length] at w
      rw [cutD_all w] at q
      exact q _ Hd3 H3 x13 (.tup (xd _ _ g1) (g2.mono xd))

/-! ### in, not in a list or tuple of texts -/
theorem inV_strs {s : Str} : ∀ (xs : List Str), inV (.str s) (xs.map V.str) = decide (s ∈ xs)
  | [] => rfl
  | x :: xs => by
    show (eqV (.str x) (.str s) || inV (.str s) (xs.map V.str)) = _
    rw [inV_strs xs]
    show ((x == s) || decide (s ∈ xs)) = _
    by_cases z : x = s
    · subst z; simp
    · have z' : ¬ s = x := fun q => z q.symm
      simp [z, z']
theorem flat_strs : ∀ (xs : List Str), (xs.map V.str).all flatV = true
  | [] => rfl
  | x :: xs => by show (true && _) = true; rw [flat_strs xs]; rfl
theorem rd_inL {s : Str} {xs : List Str} : RD K (rIn K false) (.str s) (.list (xs.map PyData.str)) (.bool (decide (s ∈ xs))) := fun Hd H v w e d1 d2 Q q => by
  cases d1
  cases d2 with
  | lst h1 h2 =>
    rw [h2.ofStrs] at h1
    exact ⟨_, _, rfl, .inl (SqL.of (e _ _ h1)), rfl, flat_strs xs, by rw [inV_strs]; exact q _ Hd H (.refl e) (.bl _)⟩
theorem rd_inT {s : Str} {xs : List Str} : RD K (rIn K false) (.str s) (.tuple (xs.map PyData.str)) (.bool (decide (s ∈ xs))) := fun Hd H v w e d1 d2 Q q => by
  cases d1
  cases d2 with
  | tup h1 h2 =>
    rw [h2.ofStrs] at h1
    exact ⟨_, _, rfl, .inr (SqT.of (e _ _ h1)), rfl, flat_strs xs, by rw [inV_strs]; exact q _ Hd H (.refl e) (.bl _)⟩
theorem rd_niL {s : Str} {xs : List Str} : RD K (rIn K true) (.str s) (.list (xs.map PyData.str)) (.bool (!decide (s ∈ xs))) := fun Hd H v w e d1 d2 Q q => by
  cases d1
  cases d2 with
  | lst h1 h2 =>
    rw [h2.ofStrs] at h1
    exact ⟨_, _, rfl, .inl (SqL.of (e _ _ h1)), rfl, flat_strs xs, by rw [inV_strs]; exact q _ Hd H (.refl e) (.bl _)⟩
theorem rd_niT {s : Str} {xs : List Str} : RD K (rIn K true) (.str s) (.tuple (xs.map PyData.str)) (.bool (!decide (s ∈ xs))) := fun Hd H v w e d1 d2 Q q => by
  cases d1
  cases d2 with
  | tup h1 h2 =>
    rw [h2.ofStrs] at h1
    exact ⟨_, _, rfl, .inr (SqT.of (e _ _ h1)), rfl, flat_strs xs, by rw [inV_strs]; exact q _ Hd H (.refl e) (.bl _)⟩
/-- texts joined by + -/
def glueR : R2 := fun x y H Q => ∃ i j, x = .str i ∧ y = .str j ∧ i.length + j.length ≤ sizeLine ∧ Q (.str (i ++ j)) H
theorem rd_catS {s t : Str} (h : s.length + t.length ≤ 100000) : RD K glueR (.str s) (.str t) (.str (s ++ t)) := fun Hd H v w e d1 d2 Q q => by
  cases d1
  cases d2
  exact ⟨s, t, rfl, rfl, fits_of h, q _ Hd H (.refl e) (.str _)⟩
def rIsNon : R2 := fun x y H Q => y = .non ∧ Q (.bl (decide (x = .non))) H
theorem rd_isN : RD K rIsNon d .none (.bool (match d with | .none => true | _ => false)) := fun Hd H v w e d1 d2 Q q => by
  cases d2
  refine ⟨rfl, ?_⟩
  cases d1 with
  | non => exact q _ Hd H (.refl e) (.bl _)
  | bl b => exact q _ Hd H (.refl e) (.bl _)
  | int b => exact q _ Hd H (.refl e) (.bl _)
  | str b => exact q _ Hd H (.refl e) (.bl _)
  | lst h1 _ => exact q _ Hd H (.refl e) (.bl _)
  | tup h1 _ => exact q _ Hd H (.refl e) (.bl _)
  | dct h1 _ => exact q _ Hd H (.refl e) (.bl _)
  | dctT h1 _ _ => exact q _ Hd H (.refl e) (.bl _)
end
end DL

namespace DL
open PySem PySem.Spec PyProof.Rows L2
open Evl (Ex)
open RZ

/-- a def of the text under its global name -/
structure Tx (K : PySem.W.Frag) (mg : Str → Option Value) (x : Str) (ps : List Str) (st : Stmt) : Prop where
  ex : ∃ f fd, Fun K x x st f fd ∧ mg x = some (.ref f) ∧ Binds K fd ps []
/-- a def that keeps its promise, up to a depth of calls -/
structure Df (P : Program) (w : World) (K : PySem.W.Frag) (mg : Str → Option Value) (base : Heap) (k : Nat) (x : Str) (ps : List Str) (sp : Sp) : Prop where
  ex : ∃ f fd, FnOk P w K mg base CX0 k f fd ps sp ∧ mg x = some (.ref f) ∧ PySem.W.keepIn K (.ref f) = true ∧ Binds K fd ps []
theorem Df.mono {P : Program} {w : World} {K : PySem.W.Frag} {mg : Str → Option Value} {base : Heap} {j k : Nat} {x : Str} {ps : List Str} {sp : Sp} (D : Df P w K mg base j x ps sp) (h : j ≤ k) : Df P w K mg base k x ps sp := by
  obtain ⟨f, fd, F, m, k1, b⟩ := D.ex
  exact ⟨f, fd, F.mono h, m, k1, b⟩
theorem Df.imp {P : Program} {w : World} {K : PySem.W.Frag} {mg : Str → Option Value} {base : Heap} {k : Nat} {x : Str} {ps : List Str} {sp sp' : Sp} (D : Df P w K mg base k x ps sp) (h : ∀ vs H Q E, sp' vs H Q E → sp vs H Q E) : Df P w K mg base k x ps sp' := by
  obtain ⟨f, fd, F, m, k1, b⟩ := D.ex
  exact ⟨f, fd, F.imp h, m, k1, b⟩
section
variable {P : Program} {w : World} {K : PySem.W.Frag} {mg : Str → Option Value} {base : Heap}
theorem Tx.ok {x : Str} {ps N : List Str} {st : Stmt} {k : Nat} {sp : Sp} (T : Tx K mg x ps st) (S : FnScope N ps (defScope st)) (len : ∀ vs H Q E, sp vs H Q E → vs.length = ps.length)
    (hbody : ∀ (f : Addr) (cdv : Value) (A : Around) (outer : List Env) (s : Shared) (H : Hp) (vs : List V) (Q : VK) (E : XK), Room k (A.deeper (envOfC x (defScope st) s.heap.objs.size f cdv)) → sp vs H Q E →
      ∃ t, PSs (cxOf CX0 P w K mg base N x (defScope st) f cdv A outer s H E).nox (defBody st) t ∧ t { nx := fun _ H' => Q .non H', rt := Q } (L2.start N vs) H) : Df P w K mg base (k + 1) x ps sp := by
  obtain ⟨f, fd, F, m, b⟩ := T.ex
  exact ⟨f, fd, F.ok S len (hbody f), m, F.kp, b⟩
theorem tx_mk {x : Str} {ps : List Str} {st : Stmt} {h : Heap} {f : Addr} {oc : Value} {od an : Option Addr} {osl : Array (Option Value)} {kV doc pm cdv ct : Value} (X : K.In h) (G : h.Ns mainGlobals mg) (a : PySem.W.nsIn K mainGlobals x = some (some (.ref f)))
    (l : K.lookup f = some ⟨oc, od, .func (PySem.W.fnOf x x (defArgs st) (defBody st) (defScope st) .none kV doc pm an cdv ct), osl⟩)
    (c : PySem.W.codeIn K cdv x = true) (k : PySem.W.keepIn K (.ref f) = true)
    (hb : ∀ (kV doc pm : Value) (an : Option Addr) (cdv ct : Value) (us : List Value), us.length = ps.length → bindArgs (PySem.W.fnOf x x (defArgs st) (defBody st) (defScope st) .none kV doc pm an cdv ct) ⟨us, []⟩ = pure (ps.zip us)) : Tx K mg x ps st := by
  have F := fun_mk (st := st) l c k
  exact ⟨f, _, F, PySem.W.mg_of X G a, F.binds hb⟩
variable {X : Cx} {x : Str} {ps : List Str} {sp : Sp} {p pos : Pos} {e : Expr} {es : List Expr} {t : TA} {j k : Nat}
theorem pe_def (D : Df X.prog X.w X.K X.mg X.base j x ps sp) (hr : Room k X.A) (hj : j ≤ k) (ha : PA X (e :: es) t) (hg : Gl X x := by rfl) (hdb : (x == ("__debug__" : Str)) = false := by decide)
    (he : starEach (e :: es) X.env = (false, eval e X.env) :: starEach es X.env := by rfl) (hpl : (backTo pos (starEach es X.env)).any (·.1) = false := by rfl) : PE X (.Call (.Name x p) (e :: es) [] pos) (tCall sp [] E0 t) := by
  obtain ⟨f, fd, F, m, k1, b⟩ := D.ex
  exact pe_call (F.mono hj) hr hg m k1 b .nil pass0 ha hdb he hpl
theorem pe_def0 (D : Df X.prog X.w X.K X.mg X.base j x ps sp) (hr : Room k X.A) (hj : j ≤ k) (hg : Gl X x := by rfl) (hdb : (x == ("__debug__" : Str)) = false := by decide) : PE X (.Call (.Name x p) [] [] pos) (tCall sp [] E0 tNil) := by
  obtain ⟨f, fd, F, m, k1, b⟩ := D.ex
  exact pe_call0 (F.mono hj) hr hg m k1 b .nil pass0 hdb
end

/-! ### the source of draws -/
def BoxO (c : Nat) (o : HO) : Prop := ∃ g m k : Int, o = .lst [.int g, .int m, .int k] ∧ 0 ≤ g ∧ 0 ≤ m ∧ m < 2 ^ 62 ∧ 0 ≤ k ∧ k ≤ c
theorem BoxO.mono {c c' : Nat} {o : HO} (h : BoxO c o) (hc : c ≤ c') : BoxO c' o := by
  obtain ⟨g, m, k, e, h1, h2, h3, h4, h5⟩ := h
  exact ⟨g, m, k, e, h1, h2, h3, h4, by omega⟩
def spTake : Sp := fun vs H Q _ => ∃ (p : Addr) (top : Int) (c : Nat) (o : HO), vs = [.ref p, .int top] ∧ 1 ≤ top ∧ top < 1073741824 ∧ H p = some o ∧ BoxO c o ∧ c < 2 ^ 60 ∧
  ∀ (r : Int) (o' : HO), 0 ≤ r → r < top → BoxO (c + 1) o' → Q (.int r) (upd H p o')
/-- one of a list's items -/
def spOf : Sp := fun vs H Q _ => ∃ (p a : Addr) (ws : List V) (c : Nat) (o : HO), vs = [.ref p, .ref a] ∧ H a = some (.lst ws) ∧ a ≠ p ∧ 0 < ws.length ∧ ws.length < 1073741824 ∧ H p = some o ∧ BoxO c o ∧ c < 2 ^ 60 ∧
  ∀ (v : V) (o' : HO), v ∈ ws → BoxO (c + 1) o' → Q v (upd H p o')
section
variable {K : PySem.W.Frag} {σ : L2.St} {H : Hp} {Q : VK}
/-- an item of a list in a slot, at a written place -/
theorem ix_own {i : Nat} {n : Int} {p : Addr} {xs : List V} {v : V} (hs : σ[i]? = some (some (.ref p))) (hp : H p = some (.lst xs)) (ha : atI xs n = some v) (q : Q v H) : tOp (rIx K) (tVar i) (tC (.int n)) σ H Q :=
  ⟨_, hs, .inl ⟨p, xs, n, v, rfl, rfl, SqL.of hp, ha, q⟩⟩
theorem cut_to (xs : List V) (m : Nat) : cutV xs none (some (m : Int)) = xs.take m := by
  unfold cutV
  rw [HT.sIx_none, HT.sIx_nat, List.drop_zero, Nat.sub_zero]
  by_cases h : m ≤ xs.length
  · rw [Nat.min_eq_left h]
  · rw [Nat.min_eq_right (by omega), List.take_length, List.take_of_length_le (by omega)]
theorem cut_from (xs : List V) (m n : Nat) (h : xs.length ≤ n) : cutV xs (some (m : Int)) (some (n : Int)) = xs.drop m := by
  unfold cutV
  rw [HT.sIx_nat, HT.sIx_nat, Nat.min_eq_right h]
  by_cases h2 : m ≤ xs.length
  · rw [Nat.min_eq_left h2, List.take_of_length_le (by rw [List.length_drop]; omega)]
  · rw [Nat.min_eq_right (by omega), List.drop_length, List.drop_of_length_le (by omega), List.take_nil]
/-- list(xs[:m]) or [0] -/
theorem cells_first {D : Ends} {a : Addr} {ns : List Int} {m : Nat} (h0 : σ[0]? = some (some (.ref a))) (h1 : σ[1]? = some (some (.int (m : Int)))) (ha : SqL K H a (ns.map V.int)) (hm : 1 ≤ m)
    (k : ∀ (p : Addr) (ms : List Int) (H2 : Hp), H p = none → Ex H H2 → H2 p = some (.lst (ms.map V.int)) → 1 ≤ ms.length → ms.length ≤ m → (m < ns.length → ms.length = m) → D.nx (σ.set 2 (some (.ref p))) H2) :
    tAsg (tOrT K (tCB (rListOf K) (tCons (tSl (rSlL K) (tVar 0) tNoPart (tPart (tVar 1))) tNil)) (tLst (tCons (tC (.int 0)) tNil))) (gName 2) D σ H := by
  refine ⟨_, h0, _, h1, m, rfl, a, _, rfl, ha, fun s hs => ⟨s, _, rfl, .inl (SqL.of upd_same), fun l hl => ?_⟩⟩
  rw [cut_to] at hl ⊢
  have e1 : Ex H (upd H s (.lst ((ns.map V.int).take m))) := Ex.new hs
  have e2 := e1.trans (Ex.new (o := .lst ((ns.map V.int).take m)) hl)
  refine ⟨_, .inl ⟨_, SqL.of upd_same, rfl⟩, ?_⟩
  cases hns : ns with
  | nil =>
    subst hns
    rw [show (!(List.take m (([] : List Int).map V.int)).isEmpty) = false by cases m <;> rfl]
    refine iteF ⟨by show 1 ≤ sizeLine; decide, fun p hp => ?_⟩
    exact k p [0] _ (Evl.fresh_back e2 hp) (e2.trans (Ex.new hp)) upd_same (Nat.le_refl _) hm (fun z => by simp at z)
  | cons n r =>
    rw [← hns]
    have hne : (!(List.take m (ns.map V.int)).isEmpty) = true := by
      obtain ⟨m', rfl⟩ : ∃ m', m = m' + 1 := ⟨m - 1, by omega⟩
      rw [hns]
      rfl
    rw [hne]
    refine iteT (k l (ns.take m) _ (Evl.fresh_back e1 hl) e2 (by rw [upd_same, List.map_take]) ?_ ?_ ?_)
    · rw [List.length_take, hns, List.length_cons]; omega
    · rw [List.length_take]; omega
    · intro z; rw [List.length_take]; omega
end
end DL

namespace DL
open PySem PySem.Spec PyProof.Rows L2
open Evl (Ex)
open RZ
def is_list : PyData → Bool
  | .list _ => true
  | _ => false
theorem kb_list : ∀ d : PyData, kitB (tyD d) "list" = some (is_list d)
  | .none => (by decide +kernel : kitB "NoneType" "list" = some false)
  | .bool _ => (by decide +kernel : kitB "bool" "list" = some false)
  | .int _ => (by decide +kernel : kitB "int" "list" = some false)
  | .str _ => (by decide +kernel : kitB "str" "list" = some false)
  | .list _ => (by decide +kernel : kitB "list" "list" = some true)
  | .tuple _ => (by decide +kernel : kitB "tuple" "list" = some false)
  | .dict _ => (by decide +kernel : kitB "dict" "list" = some false)
def is_tuple : PyData → Bool
  | .tuple _ => true
  | _ => false
theorem kb_tuple : ∀ d : PyData, kitB (tyD d) "tuple" = some (is_tuple d)
  | .none => (by decide +kernel : kitB "NoneType" "tuple" = some false)
  | .bool _ => (by decide +kernel : kitB "bool" "tuple" = some false)
  | .int _ => (by decide +kernel : kitB "int" "tuple" = some false)
  | .str _ => (by decide +kernel : kitB "str" "tuple" = some false)
  | .list _ => (by decide +kernel : kitB "list" "tuple" = some false)
  | .tuple _ => (by decide +kernel : kitB "tuple" "tuple" = some true)
  | .dict _ => (by decide +kernel : kitB "dict" "tuple" = some false)
def is_dict : PyData → Bool
  | .dict _ => true
  | _ => false
theorem kb_dict : ∀ d : PyData, kitB (tyD d) "dict" = some (is_dict d)
  | .none => (by decide +kernel : kitB "NoneType" "dict" = some false)
  | .bool _ => (by decide +kernel : kitB "bool" "dict" = some false)
  | .int _ => (by decide +kernel : kitB "int" "dict" = some false)
  | .str _ => (by decide +kernel : kitB "str" "dict" = some false)
  | .list _ => (by decide +kernel : kitB "list" "dict" = some false)
  | .tuple _ => (by decide +kernel : kitB "tuple" "dict" = some false)
  | .dict _ => (by decide +kernel : kitB "dict" "dict" = some true)
def is_bool : PyData → Bool
  | .bool _ => true
  | _ => false
theorem kb_bool : ∀ d : PyData, kitB (tyD d) "bool" = some (is_bool d)
  | .none => (by decide +kernel : kitB "NoneType" "bool" = some false)
  | .bool _ => (by decide +kernel : kitB "bool" "bool" = some true)
  | .int _ => (by decide +kernel : kitB "int" "bool" = some false)
  | .str _ => (by decide +kernel : kitB "str" "bool" = some false)
  | .list _ => (by decide +kernel : kitB "list" "bool" = some false)
  | .tuple _ => (by decide +kernel : kitB "tuple" "bool" = some false)
  | .dict _ => (by decide +kernel : kitB "dict" "bool" = some false)
def is_str : PyData → Bool
  | .str _ => true
  | _ => false
theorem kb_str : ∀ d : PyData, kitB (tyD d) "str" = some (is_str d)
  | .none => (by decide +kernel : kitB "NoneType" "str" = some false)
  | .bool _ => (by decide +kernel : kitB "bool" "str" = some false)
  | .int _ => (by decide +kernel : kitB "int" "str" = some false)
  | .str _ => (by decide +kernel : kitB "str" "str" = some true)
  | .list _ => (by decide +kernel : kitB "list" "str" = some false)
  | .tuple _ => (by decide +kernel : kitB "tuple" "str" = some false)
  | .dict _ => (by decide +kernel : kitB "dict" "str" = some false)
def is_int : PyData → Bool
  | .bool _ => true
  | .int _ => true
  | _ => false
theorem kb_int : ∀ d : PyData, kitB (tyD d) "int" = some (is_int d)
  | .none => (by decide +kernel : kitB "NoneType" "int" = some false)
  | .bool _ => (by decide +kernel : kitB "bool" "int" = some true)
  | .int _ => (by decide +kernel : kitB "int" "int" = some true)
  | .str _ => (by decide +kernel : kitB "str" "int" = some false)
  | .list _ => (by decide +kernel : kitB "list" "int" = some false)
  | .tuple _ => (by decide +kernel : kitB "tuple" "int" = some false)
  | .dict _ => (by decide +kernel : kitB "dict" "int" = some false)
def is_non : PyData → Bool
  | .none => true
  | _ => false
section
variable {K : PySem.W.Frag} {Γ : List G} {te : TE} {d : PyData}
theorem rd_isNon : RD K rIsNon d .none (.bool (is_non d)) := by
  have h := rd_isN (K := K) (d := d)
  cases d <;> exact h
end

/-! ### the law's own look at two things: equal, and of the same kinds at every depth -/
mutual
def sameD : PyData → PyData → Bool
  | .list xs, .list ys => sameA xs ys
  | .tuple xs, .tuple ys => sameA xs ys
  | .none, .none => true
  | .bool a, .bool b => a == b
  | .int a, .int b => a == b
  | .str a, .str b => a == b
  | _, _ => false
def sameA : List PyData → List PyData → Bool
  | [], [] => true
  | x :: xs, y :: ys => sameD x y && sameA xs ys
  | _, _ => false
end
theorem sameA_zip : ∀ (xs ys : List PyData), sameA xs ys = (decide (xs.length = ys.length) && ((xs.zip ys).map fun p => sameD p.1 p.2).all id)
  | [], [] => rfl
  | x :: xs, y :: ys => by
    show (sameD x y && sameA xs ys) = _
    rw [sameA_zip xs ys]
    show _ = (decide (xs.length + 1 = ys.length + 1) && (sameD x y && ((xs.zip ys).map fun p => sameD p.1 p.2).all id))
    by_cases h : xs.length = ys.length
    · have h' : xs.length + 1 = ys.length + 1 := by omega
      rw [decide_eq_true h, decide_eq_true h']
      simp
    · have h' : ¬ xs.length + 1 = ys.length + 1 := by omega
      rw [decide_eq_false h, decide_eq_false h']
      simp
  | [], y :: ys => by
    show false = (decide (0 = ys.length + 1) && _)
    rw [decide_eq_false (by omega)]
    rfl
  | x :: xs, [] => by
    show false = (decide (xs.length + 1 = 0) && _)
    rw [decide_eq_false (by omega)]
    rfl
theorem shaped_mem : ∀ {xs : List PyData}, PyData.canLayAll0 xs = true → PyData.depthAll xs ≤ 64 → ∀ x ∈ xs, PyData.canLay0 x = true ∧ PyData.depth x ≤ PyData.depthAll xs
  | [], _, _, x, h => by cases h
  | y :: ys, h, hd, x, hx => by
    simp only [PyData.canLayAll0, Bool.and_eq_true] at h
    have e : PyData.depthAll (y :: ys) = max y.depth (PyData.depthAll ys) := by simp [PyData.depthAll]
    rcases List.mem_cons.mp hx with q | q
    · subst q
      exact ⟨h.1, by rw [e]; omega⟩
    · obtain ⟨a, b⟩ := shaped_mem h.2 (by rw [e] at hd; omega) x q
      exact ⟨a, by rw [e]; omega⟩
theorem shaped_list {xs : List PyData} (h : SeqAt.shaped (.list xs) = true) : ∀ x ∈ xs, SeqAt.shaped x = true ∧ x.depth < (PyData.list xs).depth := fun x hx => by
  have h1 := SeqAt.canLay_of_shaped h
  have h2 := SeqAt.depth_of_shaped h
  simp only [PyData.canLay0] at h1
  have e : (PyData.list xs).depth = PyData.depthAll xs + 1 := by simp [PyData.depth]
  rw [e] at h2
  obtain ⟨a, b⟩ := shaped_mem h1 (by omega) x hx
  exact ⟨by unfold SeqAt.shaped; rw [a, decide_eq_true (by omega)]; rfl, by rw [e]; omega⟩
theorem shaped_tup {xs : List PyData} (h : SeqAt.shaped (.tuple xs) = true) : ∀ x ∈ xs, SeqAt.shaped x = true ∧ x.depth < (PyData.tuple xs).depth := fun x hx => by
  have h1 := SeqAt.canLay_of_shaped h
  have h2 := SeqAt.depth_of_shaped h
  simp only [PyData.canLay0] at h1
  have e : (PyData.tuple xs).depth = PyData.depthAll xs + 1 := by simp [PyData.depth]
  rw [e] at h2
  obtain ⟨a, b⟩ := shaped_mem h1 (by omega) x hx
  exact ⟨by unfold SeqAt.shaped; rw [a, decide_eq_true (by omega)]; rfl, by rw [e]; omega⟩
/-- a promise that nobody can ask -/
theorem Tx.none {P : Program} {w : World} {K : PySem.W.Frag} {mg : Str → Option Value} {base : Heap} {x : Str} {ps : List Str} {st : Stmt} {n : Nat} (X : Tx K mg x ps st) : Df P w K mg base 0 x ps (spD K n fun _ _ => False) := by
  obtain ⟨f, fd, F, m, b⟩ := X.ex
  refine ⟨f, fd, ⟨fun vs H Q E h => ?_, fun A outer s H args us vs Q E hr he hb hv h => ?_⟩, m, F.kp, b⟩
  · obtain ⟨_, _, _, _, _, _, z, _⟩ := h
    exact z.elim
  · obtain ⟨_, _, _, _, _, _, z, _⟩ := h
    exact z.elim

mutual
/-- no long row within -/
def shortD : PyData → Bool
  | .list xs => decide (xs.length ≤ 100000) && shortA xs
  | .tuple xs => decide (xs.length ≤ 100000) && shortA xs
  | .dict _ => false
  | .none => true
  | .bool _ => true
  | .int _ => true
  | .str _ => true
def shortA : List PyData → Bool
  | [] => true
  | x :: xs => shortD x && shortA xs
end
theorem shortA_mem : ∀ {xs : List PyData}, shortA xs = true → ∀ x ∈ xs, shortD x = true
  | [], _, x, h => by cases h
  | y :: ys, h, x, hx => by
    simp only [shortA, Bool.and_eq_true] at h
    rcases List.mem_cons.mp hx with q | q
    · subst q; exact h.1
    · exact shortA_mem h.2 x q
def fine (d : PyData) : Bool := SeqAt.shaped d && shortD d
theorem fine_shaped {d : PyData} (h : fine d = true) : SeqAt.shaped d = true := (Bool.and_eq_true_iff.mp h).1
theorem fine_list {xs : List PyData} (h : fine (.list xs) = true) : xs.length ≤ 100000 ∧ ∀ x ∈ xs, fine x = true ∧ x.depth < (PyData.list xs).depth := by
  obtain ⟨h1, h2⟩ := Bool.and_eq_true_iff.mp h
  simp only [shortD, Bool.and_eq_true, decide_eq_true_eq] at h2
  exact ⟨h2.1, fun x hx => ⟨Bool.and_eq_true_iff.mpr ⟨(shaped_list h1 x hx).1, shortA_mem h2.2 x hx⟩, (shaped_list h1 x hx).2⟩⟩
theorem fine_tup {xs : List PyData} (h : fine (.tuple xs) = true) : xs.length ≤ 100000 ∧ ∀ x ∈ xs, fine x = true ∧ x.depth < (PyData.tuple xs).depth := by
  obtain ⟨h1, h2⟩ := Bool.and_eq_true_iff.mp h
  simp only [shortD, Bool.and_eq_true, decide_eq_true_eq] at h2
  exact ⟨h2.1, fun x hx => ⟨Bool.and_eq_true_iff.mpr ⟨(shaped_tup h1 x hx).1, shortA_mem h2.2 x hx⟩, (shaped_tup h1 x hx).2⟩⟩
def domSame (n : Nat) : List PyData → PyData → Prop := fun ds r => ∃ g d, ds = [g, d] ∧ d.depth < n ∧ fine g = true ∧ fine d = true ∧ r = .bool (sameD g d)
section
variable {K : PySem.W.Frag} {Γ : List G} {a b : Bool}
theorem rd_neB : RD K (rNeD K) (.bool a) (.bool b) (.bool (a != b)) := by
  have h := rd_neD (K := K) (x := .bool a) (y := .bool b) rfl rfl
  have e : (!PyData.eqv (.bool a) (.bool b)) = (a != b) := by simp [PyData.eqv, bne]
  rw [e] at h
  exact h
theorem rd_eqB : RD K (rEqD K) (.bool a) (.bool b) (.bool (a == b)) := by
  have h := rd_eqD (K := K) (x := .bool a) (y := .bool b) rfl rfl
  have e : PyData.eqv (.bool a) (.bool b) = (a == b) := by simp [PyData.eqv]
  rw [e] at h
  exact h
theorem rd_eqI {i j : Int} : RD K (rEqD K) (.int i) (.int j) (.bool (decide (i = j))) := by
  have h := rd_eqD (K := K) (x := .int i) (y := .int j) rfl rfl
  have e : PyData.eqv (.int i) (.int j) = decide (i = j) := by simp only [PyData.eqv]; rfl
  rw [e] at h
  exact h
def pairSame : PyData → PyData
  | .tuple [x, y] => .bool (sameD x y)
  | _ => .none
theorem map_pairSame : ∀ (xs ys : List PyData), (zipD xs ys).map pairSame = ((xs.zip ys).map fun p => sameD p.1 p.2).map PyData.bool := fun xs ys => by
  unfold zipD
  rw [List.map_map, List.map_map]
  rfl
/-- the row of answers, item by item -/
theorem er_same {D : List PyData → PyData → Prop} {E : XK} {wi : TI} {i j : Nat} {vs : List Nat} {xs ys : List PyData} (hi : EI K wi Γ (zipD xs ys)) (hl : xs.length ≤ 100000) (h1 : i ∈ vs) (h2 : j ∈ vs) (hij : i ≠ j) (hib : i < (wipeG Γ vs).length) (hjb : j < (wipeG Γ vs).length)
    (hD : ∀ x y, x ∈ xs → y ∈ ys → D [x, y] (.bool (sameD x y))) :
    ER K (tLc wi (gTup K 2 (gCons (gName i) (gCons (gName j) gNil))) tYes (tCall (spD K 2 D) [] E (tCons (tVar i) (tCons (tVar j) tNil))) vs) Γ (((xs.zip ys).map fun p => sameD p.1 p.2).map PyData.bool) := by
  refine EF.rd ((ef_lc0 (f := pairSame) hi (by rw [zipD_len]; omega) fun d hd => ?_).is (map_pairSame xs ys))
  obtain ⟨k, hk⟩ := List.getElem?_of_mem hd
  obtain ⟨x, y, hx, hy, rfl⟩ := zipD_get hk
  refine ⟨_, gd_two h1 h2, ed_call (ea_cons (ed_var (d := x) ?_) (ea_cons (ed_var (d := y) ?_) ea_nil)) rfl (hD x y (List.mem_of_getElem? hx) (List.mem_of_getElem? hy))⟩
  · rw [List.getElem?_set_ne hij.symm, List.getElem?_set_self hib]
  · rw [List.getElem?_set_self (by simpa using hjb)]
end
end DL

namespace DL
open PySem PySem.Spec PyProof.Rows L2
open Evl (Ex)
open RZ

/-! ### texts in order -/
abbrev ltS (a b : Str) : Bool := ltCps a.cps.toList b.cps.toList
theorem lt_irr : ∀ a : List Nat, ltCps a a = false
  | [] => rfl
  | a :: r => by
    show (decide (a < a) || (a == a && ltCps r r)) = false
    rw [lt_irr r]
    simp
theorem lt_tri : ∀ {a b : List Nat}, ltCps a b = false → ltCps b a = false → a = b
  | [], [], _, _ => rfl
  | [], _ :: _, h, _ => by cases h
  | _ :: _, [], _, h => by cases h
  | a :: r, b :: t, h1, h2 => by
    simp only [ltCps, Bool.or_eq_false_iff, decide_eq_false_iff_not, Bool.and_eq_false_imp, beq_iff_eq] at h1 h2
    have e : a = b := by omega
    subst e
    rw [lt_tri (h1.2 rfl) (h2.2 rfl)]
theorem lt_trans' : ∀ {a b c : List Nat}, ltCps a b = true → ltCps b c = true → ltCps a c = true
  | [], [], _, h, _ => by cases h
  | [], _ :: _, [], _, h => by cases h
  | [], _ :: _, _ :: _, _, _ => rfl
  | _ :: _, [], _, h, _ => by cases h
  | _ :: _, _ :: _, [], _, h => by cases h
  | a :: r, b :: t, c :: u, h1, h2 => by
    simp only [ltCps, Bool.or_eq_true, decide_eq_true_eq, Bool.and_eq_true, beq_iff_eq] at h1 h2 ⊢
    rcases h1 with h1 | ⟨e1, h1⟩ <;> rcases h2 with h2 | ⟨e2, h2⟩
    · exact .inl (by omega)
    · exact .inl (by omega)
    · exact .inl (by omega)
    · exact .inr ⟨by omega, lt_trans' h1 h2⟩
theorem str_ext {a b : Str} (h : a.cps.toList = b.cps.toList) : a = b := by
  cases a; cases b
  simpa using h
theorem leS_trans {a b c : Str} (h1 : ltS b a = false) (h2 : ltS c b = false) : ltS c a = false := by
  cases h : ltS c a with
  | false => rfl
  | true =>
    exfalso
    cases hbc : ltS b c with
    | true => exact nomatch h1.symm.trans (lt_trans' hbc h)
    | false =>
      have e : b = c := str_ext (lt_tri hbc h2)
      subst e
      rw [h1] at h
      cases h
theorem rising_all : ∀ {x : Str} {r : List Str}, risingS x r = true → ∀ y ∈ r, ltS y x = false
  | x, [], _, y, h => by cases h
  | x, z :: r, h, y, hy => by
    simp only [risingS, Bool.and_eq_true, Bool.not_eq_true'] at h
    rcases List.mem_cons.mp hy with q | q
    · subst q; exact h.1
    · exact leS_trans h.1 (rising_all h.2 y q)
theorem sortedS_tail {x : Str} {r : List Str} (h : sortedS (x :: r) = true) : sortedS r = true := by
  cases r with
  | nil => rfl
  | cons y t =>
    simp only [sortedS, risingS, Bool.and_eq_true] at h
    exact h.2
theorem sorted_unique : ∀ {l m : List Str}, l.Perm m → sortedS l = true → sortedS m = true → l = m
  | [], m, p, _, _ => (List.Perm.nil_eq p)
  | x :: r, [], p, _, _ => by
    have := p.length_eq
    simp at this
  | x :: r, y :: t, p, h1, h2 => by
    have hx : x ∈ y :: t := p.mem_iff.mp List.mem_cons_self
    have hy : y ∈ x :: r := p.mem_iff.mpr List.mem_cons_self
    have e : x = y := by
      rcases List.mem_cons.mp hx with q | q
      · exact q
      · rcases List.mem_cons.mp hy with q2 | q2
        · exact q2.symm
        · exact str_ext (lt_tri (rising_all h2 x q) (rising_all h1 y q2))
    subst e
    rw [sorted_unique (List.Perm.cons_inv p) (sortedS_tail h1) (sortedS_tail h2)]
def insS (x : Str) : List Str → List Str
  | [] => [x]
  | y :: r => if ltS y x = true then y :: insS x r else x :: y :: r
def sortS : List Str → List Str
  | [] => []
  | x :: r => insS x (sortS r)
theorem insS_perm (x : Str) : ∀ l : List Str, (insS x l).Perm (x :: l)
  | [] => .refl _
  | y :: r => by
    unfold insS
    by_cases h : ltS y x = true
    · rw [if_pos h]
      exact ((insS_perm x r).cons y).trans (.swap x y r)
    · rw [if_neg h]
theorem sortS_perm : ∀ l : List Str, (sortS l).Perm l
  | [] => .refl _
  | x :: r => (insS_perm x (sortS r)).trans ((sortS_perm r).cons x)
theorem rising_of : ∀ {x : Str} {l : List Str}, sortedS l = true → (∀ y ∈ l, ltS y x = false) → risingS x l = true
  | x, [], _, _ => rfl
  | x, y :: r, h, hy => by
    show (!ltS y x && risingS y r) = true
    rw [hy y List.mem_cons_self]
    simpa [sortedS] using h
theorem insS_sorted (x : Str) : ∀ {l : List Str}, sortedS l = true → sortedS (insS x l) = true
  | [], _ => rfl
  | y :: r, h => by
    unfold insS
    by_cases hc : ltS y x = true
    · rw [if_pos hc]
      refine rising_of (insS_sorted x (sortedS_tail h)) fun z hz => ?_
      rcases List.mem_cons.mp ((insS_perm x r).mem_iff.mp hz) with q | q
      · subst q
        cases hz2 : ltS z y with
        | false => rfl
        | true =>
          have := lt_trans' hc hz2
          rw [lt_irr] at this
          cases this
      · exact rising_all h z q
    · rw [if_neg hc]
      have hc' : ltS y x = false := by simpa using hc
      show (!ltS y x && risingS y r) = true
      rw [hc']
      simpa [sortedS] using h
theorem sortS_sorted : ∀ l : List Str, sortedS (sortS l) = true
  | [] => rfl
  | x :: r => insS_sorted x (sortS_sorted r)
theorem sortS_mem {x : Str} {l : List Str} : x ∈ sortS l ↔ x ∈ l := (sortS_perm l).mem_iff
theorem sortS_len (l : List Str) : (sortS l).length = l.length := (sortS_perm l).length_eq

section
variable {K : PySem.W.Frag} {Γ Δ : List G} {ta tb te tl : TE} {d x y z : PyData} {ds xs ys : List PyData} {b : Bool} {gs : TGs} {vs : List Nat}
theorem ef_sortS {ss : List Str} (h : ER K te Γ (ss.map PyData.str)) (hl : ss.length < 64) : EF K (tCB (rSortedS K) (tCons te tNil)) Γ ((sortS ss).map PyData.str) := fun _ _ σ Hd H e Q q =>
  h _ _ σ Hd H e _ fun a vs Hd1 H1 x1 h1 d1 => by
    rw [d1.ofStrs] at h1
    refine ⟨a, ss, rfl, SqL.of h1, hl, fun ys p hp hs np => ?_⟩
    have ey : ys = sortS ss := sorted_unique (hp.trans (sortS_perm ss).symm) hs (sortS_sorted ss)
    subst ey
    exact q p _ Hd1 _ (x1.mut (Evl.fresh_back x1.h np) (Evl.fresh_back x1.i np)) (Evl.fresh_back x1.h np) (Evl.fresh_back x1.i np) upd_same (DtA.strs _)

/-! ### a walk of a list or a tuple, a pair of either kind -/
def iSeq (K : PySem.W.Frag) (tl : TE) : TI := fun σ H R => tl σ H fun x H1 => ∃ a, x = .ref a ∧ (((∃ xs, SqL K H1 a xs) ∧ R (Itl K a) H1) ∨ ((∃ xs, SqT K H1 a xs) ∧ R (Itt K a) H1))
theorem pi_seq {X : Cx} {tg l : Expr} (hl : PE X l tl) : PI X tg l (iSeq X.K tl) := by
  refine ⟨fun pins s σ H R I h => ?_⟩
  refine thn (hl.run pins s σ H _ I h) fun v s1 hv => ?_
  obtain ⟨x, H1, I1, r1, a, ex, q⟩ := hv
  subst ex
  have ev : v = Value.ref a := r1
  subst ev
  have fp : ∀ c ∈ [s1.heap.objs.size], FpOk X pins H1 c := fun c hc => by
    have ec : c = s1.heap.objs.size := List.mem_singleton.mp hc
    rw [ec]
    exact I1.fpOk (Nat.le_refl _) (I1.hok.fresh (Nat.le_refl _))
  rcases q with ⟨⟨xs, hq⟩, q⟩ | ⟨⟨xs, hq⟩, q⟩
  · obtain ⟨its, rv, pl, hz⟩ := I1.list hq
    exact wpAny_pyIter_list pl.isList ⟨_, [s1.heap.objs.size], _, _, H1, rfl, I1.kept (t' := s1.toks) fun b o eb => Heap.get?_push_of_some _ eb, turn_list a _, ⟨_, Heap.get?_push_size _ rfl, rfl, rfl⟩, fp, q⟩
  · obtain ⟨its, rv, pl, hz⟩ := I1.tuple hq
    exact wpAny_pyIter_tuple (show s1.heap.IsTuple a its.toArray from pl) ⟨_, [s1.heap.objs.size], _, _, H1, rfl, I1.kept (t' := s1.toks) fun b o eb => Heap.get?_push_of_some _ eb, turn_tuple a _, ⟨_, Heap.get?_push_size _ rfl, rfl, rfl⟩, fp, q⟩
theorem ei_seqL (h : ED K tl Γ (.list ds)) : EI K (iSeq K tl) Γ ds := fun _ _ σ Hd H e R q => h _ _ σ Hd H e _ fun v Hd1 H1 x1 d1 => by
  have hh := ei_list h _ _ σ Hd H e R q
  cases d1 with
  | lst h1 h2 =>
    refine ⟨_, rfl, .inl ⟨⟨_, SqL.of (x1.i _ _ h1)⟩, q _ Hd1 H1 x1 fun Hd' H' e1 e2 => ?_⟩⟩
    have hl := SqL.of (K := K) (e2 _ _ (e1 _ _ h1))
    refine ⟨⟨_, hl, by rw [h2.length]; exact Nat.le_refl _⟩, fun i d hd => ?_⟩
    obtain ⟨u, g1, g2⟩ := h2.got hd
    exact ⟨⟨_, u, hl, g1⟩, fun x H'' ⟨eH, y⟩ => by
      have z := y _ hl
      rw [g1] at z
      cases z
      subst eH
      exact ⟨Hd', .refl e2, g2.mono e1⟩⟩
theorem ei_seqT (h : ED K tl Γ (.tuple ds)) : EI K (iSeq K tl) Γ ds := fun _ _ σ Hd H e R q => h _ _ σ Hd H e _ fun v Hd1 H1 x1 d1 => by
  cases d1 with
  | tup h1 h2 =>
    refine ⟨_, rfl, .inr ⟨⟨_, SqT.of (x1.i _ _ h1)⟩, q _ Hd1 H1 x1 fun Hd' H' e1 e2 => ?_⟩⟩
    have hl := SqT.of (K := K) (e2 _ _ (e1 _ _ h1))
    refine ⟨⟨_, hl, by rw [h2.length]; exact Nat.le_refl _⟩, fun i d hd => ?_⟩
    obtain ⟨u, g1, g2⟩ := h2.got hd
    exact ⟨⟨_, u, hl, g1⟩, fun x H'' ⟨eH, y⟩ => by
      have z := y _ hl
      rw [g1] at z
      cases z
      subst eH
      exact ⟨Hd', .refl e2, g2.mono e1⟩⟩
def gSeq (K : PySem.W.Frag) (n : Nat) (t : TGs) : TG := fun v σ H Q => ∃ a xs, v = .ref a ∧ (SqL K H a xs ∨ SqT K H a xs) ∧ xs.length = n ∧ t xs σ H Q
theorem pg_seq {X : Cx} {pos : Pos} {es : List Expr} {k : Nat} {t : TGs} {n : Nat} (hc : X.calm = true) (h : PGs X es t)
    (hn : (assignEach es X.env).length = n := by rfl) (hst : (assignEach es X.env).findIdx? (·.1) = none := by rfl) : PG X (.Tuple es k pos) (gSeq X.K n t) := by
  refine ⟨fun pins s σ H v u Q I r hw => ?_⟩
  obtain ⟨a, xs, e1, hq, hl, hw⟩ := hw
  rcases hq with hq | hq
  · exact (pg_unl hc h hn hst).run pins s σ H v u Q I r ⟨a, xs, e1, hq, hl, hw⟩
  · exact (pg_tup hc h hn hst).run pins s σ H v u Q I r ⟨a, xs, e1, hq, hl, hw⟩
theorem gd_seqT {n : Nat} (h : GDs K gs Γ ds vs Δ) (hn : ds.length = n) : GD K (gSeq K n gs) Γ (.tuple ds) vs Δ := fun _ _ σ Hd H v e hd Q q => by
  cases hd with
  | tup h1 h2 => exact ⟨_, _, rfl, .inr (SqT.of (e.x.i _ _ h1)), by rw [h2.length, hn], h _ _ σ Hd H _ e h2 Q q⟩
theorem gd_seqL {n : Nat} (h : GDs K gs Γ ds vs Δ) (hn : ds.length = n) : GD K (gSeq K n gs) Γ (.list ds) vs Δ := fun _ _ σ Hd H v e hd Q q => by
  cases hd with
  | lst h1 h2 => exact ⟨_, _, rfl, .inl (SqL.of (e.x.i _ _ h1)), by rw [h2.length, hn], h _ _ σ Hd H _ e h2 Q q⟩
end
end DL

namespace DL
open PySem PySem.Spec PyProof.Rows L2
open Evl (Ex)
open RZ

/-! ### rows of either kind -/
def seqOf : PyData → Option (List PyData)
  | .list xs => some xs
  | .tuple xs => some xs
  | _ => none
section
variable {K : PySem.W.Frag} {Γ Δ : List G} {ta tb te tl : TE} {d x y z : PyData} {ds xs ys : List PyData} {b : Bool} {gs : TGs} {vs : List Nat}
theorem rd_ixQ {i : Int} (hs : seqOf d = some xs) (h : atI xs i = some z) : RD K (rIx K) d (.int i) z := by
  cases d with
  | list ys => cases hs; exact rd_ixL h
  | tuple ys => cases hs; exact rd_ixT h
  | _ => exact nomatch hs
theorem ei_seqQ (hs : seqOf d = some ds) (h : ED K tl Γ d) : EI K (iSeq K tl) Γ ds := by
  cases d with
  | list ys => cases hs; exact ei_seqL h
  | tuple ys => cases hs; exact ei_seqT h
  | _ => exact nomatch hs
theorem gd_seqQ {n : Nat} (hs : seqOf d = some ds) (h : GDs K gs Γ ds vs Δ) (hn : ds.length = n) : GD K (gSeq K n gs) Γ d vs Δ := by
  cases d with
  | list ys => cases hs; exact gd_seqL h hn
  | tuple ys => cases hs; exact gd_seqT h hn
  | _ => exact nomatch hs
theorem gd_twoQ {i j : Nat} (hs : seqOf d = some [x, y]) (hi : i ∈ vs) (hj : j ∈ vs) : GD K (gSeq K 2 (gCons (gName i) (gCons (gName j) gNil))) Γ d vs ((Γ.set i (.dat x)).set j (.dat y)) :=
  gd_seqQ hs (gds_cons (gd_name hi) (gds_cons (gd_name hj) gds_nil)) rfl
theorem ed_lenQ (hs : seqOf d = some ds) (h : ED K te Γ d) : ED K (tCB (rLenOf K) (tCons te tNil)) Γ (.int ds.length) := by
  cases d with
  | list ys => cases hs; exact ed_lenR h.rd
  | tuple ys => cases hs; exact ed_lenT h
  | _ => exact nomatch hs

/-! ### a dict among the data -/
theorem DtK.val {H : Hp} {x : Str} : ∀ {ks : List (Key × V)} {kvs : List (PyData × PyData)} {d : PyData}, DtK K H ks kvs → (kvs.find? fun p => match p.1 with | .str y => decide (y = x) | _ => false) = some (.str x, d) → ∃ v, valV ks (.inr x : Key) = some v ∧ Dt K H v d
  | [], _, _, h, e => by cases h; cases e
  | (k, v) :: ks, _, d, h, e => by
    cases h with
    | @cons y _ _ d' kvs h1 h2 =>
      by_cases z : y = x
      · subst z
        simp only [List.find?_cons, decide_true] at e
        cases e
        exact ⟨v, valV_pos rfl, h1⟩
      · simp only [List.find?_cons, decide_eq_false z] at e
        obtain ⟨w, g1, g2⟩ := DtK.val h2 e
        exact ⟨w, by rw [valV_neg (fun q => z (Sum.inr.inj q))]; exact g1, g2⟩
theorem DtK.noval {H : Hp} {x : Str} : ∀ {ks : List (Key × V)} {kvs : List (PyData × PyData)}, DtK K H ks kvs → (kvs.find? fun p => match p.1 with | .str y => decide (y = x) | _ => false) = none → valV ks (.inr x : Key) = none
  | [], _, h, e => rfl
  | (k, v) :: ks, _, h, e => by
    cases h with
    | @cons y _ _ d' kvs h1 h2 =>
      by_cases z : y = x
      · subst z
        simp [List.find?_cons] at e
      · simp only [List.find?_cons, decide_eq_false z] at e
        rw [valV_neg (fun q => z (Sum.inr.inj q))]
        exact DtK.noval h2 e
theorem dtk_snoc {H : Hp} {x : Str} {v : V} {d : PyData} : ∀ {ks : List (Key × V)} {kvs : List (PyData × PyData)}, DtK K H ks kvs → Dt K H v d → DtK K H (ks ++ [(.inr x, v)]) (kvs ++ [(.str x, d)])
  | [], _, h, g => by cases h; exact .cons g .nil
  | _ :: _, _, h, g => by
    cases h with
    | cons h1 h2 => exact .cons h1 (dtk_snoc h2 g)
def lookD (kvs : List (PyData × PyData)) (x : Str) : Option PyData := (kvs.find? fun p => match p.1 with | .str y => decide (y = x) | _ => false).map (·.2)
theorem find_key {kvs : List (PyData × PyData)} {x : Str} {p : PyData × PyData} (h : (kvs.find? fun p => match p.1 with | .str y => decide (y = x) | _ => false) = some p) : p.1 = .str x := by
  have q := List.find?_some h
  cases e : p.1 <;> rw [e] at q <;> first | (simp at q; rw [q]) | cases q
/-- no rows of numbers and texts among the keys -/
def strKeys (kvs : List (PyData × PyData)) : Bool := kvs.all fun p => match p.1 with | .tuple _ => false | _ => true
theorem strKeys_map (ns : List Str) (F : Str → PyData) : strKeys (ns.map fun n => (.str n, F n)) = true := List.all_eq_true.mpr fun p hp => by
  obtain ⟨n, _, rfl⟩ := List.mem_map.mp hp
  rfl
theorem no_rows {H : Hp} {ks : List (List Key × V)} {kvs : List (PyData × PyData)} (h : DtT K H ks kvs) (n : kvs ≠ []) (s : strKeys kvs = true) : False := by
  cases h with
  | nil => exact n rfl
  | cons _ _ => simp [strKeys] at s
theorem no_look {H : Hp} {x : Str} : ∀ {ks : List (List Key × V)} {kvs : List (PyData × PyData)}, DtT K H ks kvs → lookD kvs x = none
  | [], _, h => by cases h; rfl
  | _ :: _, _, h => by
    cases h with
    | cons _ h2 =>
      have ih := no_look (x := x) h2
      unfold lookD at ih ⊢
      rw [List.find?_cons]
      exact ih
theorem ed_dget {x : Str} {kvs : List (PyData × PyData)} (h1 : ED K ta Γ (.dict kvs)) (h2 : ED K tb Γ (.str x)) (hl : lookD kvs x = some d) : ED K (tDGet ta tb) Γ d := fun _ _ σ Hd H e Q q =>
  h1 _ _ σ Hd H e _ fun v Hd1 H1 x1 d1 => h2 _ _ σ Hd1 H1 (e.ext x1) _ fun w Hd2 H2 x2 d2 => by
    cases d2
    cases d1 with
    | dct g1 g2 =>
      unfold lookD at hl
      obtain ⟨p, hp, rfl⟩ := Option.map_eq_some_iff.mp hl
      have ek := find_key hp
      obtain ⟨k, d⟩ := p
      simp only at ek
      subst ek
      obtain ⟨u, e1, e2⟩ := DtK.val g2 hp
      refine ⟨_, u, rfl, ?_, q u Hd2 H2 (x1.trans x2) (e2.mono x2.d)⟩
      rw [← e1]
      exact DGet.k (k := Sum.inr x) (x2.h _ _ (x1.i _ _ g1))
    | dctT g1 g2 g3 => rw [no_look g2] at hl; cases hl
theorem ed_din {x : Str} {kvs : List (PyData × PyData)} (hk : strKeys kvs = true) (h2 : ED K tb Γ (.str x)) (h1 : ED K ta Γ (.dict kvs)) : ED K (tDIn tb ta) Γ (.bool (lookD kvs x).isSome) := fun _ _ σ Hd H e Q q =>
  h2 _ _ σ Hd H e _ fun w Hd1 H1 x1 d1 => h1 _ _ σ Hd1 H1 (e.ext x1) _ fun v Hd2 H2 x2 d2 => by
    cases d1
    cases d2 with
    | dctT g1 g2 g3 => exact (no_rows g2 g3 hk).elim
    | @dct _ ks _ g1 g2 =>
      refine ⟨_, valV ks (.inr x : Key), rfl, DGet.k (k := Sum.inr x) (x2.i _ _ g1), ?_⟩
      have eb : (valV ks (.inr x : Key)).isSome = (lookD kvs x).isSome := by
        unfold lookD
        cases hf : kvs.find? (fun p => match p.1 with | .str y => decide (y = x) | _ => false) with
        | none => rw [DtK.noval g2 hf]; rfl
        | some p =>
          obtain ⟨k, d⟩ := p
          have ek := find_key hf
          simp only at ek
          subst ek
          obtain ⟨u, e1, _⟩ := DtK.val g2 hf
          rw [e1]
          rfl
      rw [eb]
      exact q _ Hd2 H2 (x1.trans x2) (.bl _)

/-! ### CHARTS as data -/
structure ChartIs (d : PyData) (ns : List Str) (ms : List (Str × Str)) : Prop where
  ex : ∃ s st mv sts mvs, seqOf d = some [s, st, mv] ∧ seqOf st = some sts ∧ seqOf mv = some mvs ∧ Paired (fun e n => ∃ w, seqOf e = some [.str n, w]) sts ns ∧ Paired (fun e (p : Str × Str) => seqOf e = some [.str p.1, .str p.2]) mvs ms
  nd : ns.Nodup
  mem : ∀ p ∈ ms, p.1 ∈ ns ∧ p.2 ∈ ns
  nl : ns.length ≤ 1000
  ml : ms.length ≤ 31
def firstOf (e : PyData) : PyData := match seqOf e with
  | some (x :: _) => x
  | _ => .none
theorem map_first : ∀ {sts : List PyData} {ns : List Str}, Paired (fun e n => ∃ w, seqOf e = some [.str n, w]) sts ns → sts.map firstOf = ns.map PyData.str
  | _, _, .nil => rfl
  | _, _, .cons h t => by
    obtain ⟨w, hw⟩ := h
    rw [List.map_cons, List.map_cons, map_first t]
    unfold firstOf
    rw [hw]
theorem pairGet {α β : Type} {F : α → β → Prop} : ∀ {l : List α} {m : List β} {i : Nat} {x : α}, Paired F l m → l[i]? = some x → ∃ y, m[i]? = some y ∧ F x y
  | _, _, _, _, .nil, h => by cases h
  | _, _, 0, _, .cons r t, h => by cases h; exact ⟨_, rfl, r⟩
  | _, _, i + 1, x, .cons r t, h => pairGet (i := i) t h
theorem pairGot {α β : Type} {F : α → β → Prop} : ∀ {l : List α} {m : List β} {i : Nat} {y : β}, Paired F l m → m[i]? = some y → ∃ x, l[i]? = some x ∧ F x y
  | _, _, _, _, .nil, h => by cases h
  | _, _, 0, _, .cons r t, h => by cases h; exact ⟨_, rfl, r⟩
  | _, _, i + 1, x, .cons r t, h => pairGot (i := i) t h
def nearL (ms : List (Str × Str)) (n : Str) : List Str := ms.flatMap fun p => (if p.1 = n then [p.2] else []) ++ (if p.2 = n then [p.1] else [])
def nearD (ns : List Str) (ms : List (Str × Str)) : PyData := .dict (ns.map fun n => (.str n, .list ((sortS (nearL ms n)).map PyData.str)))
theorem nearL_len (ms : List (Str × Str)) (n : Str) : (nearL ms n).length ≤ 2 * ms.length := by
  induction ms with
  | nil => exact Nat.le_refl _
  | cons p r ih =>
    have e : nearL (p :: r) n = ((if p.1 = n then [p.2] else []) ++ (if p.2 = n then [p.1] else [])) ++ nearL r n := by
      unfold nearL; rw [List.flatMap_cons]
    rw [e, List.length_append, List.length_append, List.length_cons]
    have h1 : (if p.1 = n then [p.2] else []).length ≤ 1 := by split <;> simp
    have h2 : (if p.2 = n then [p.1] else []).length ≤ 1 := by split <;> simp
    omega
theorem nearL_mem {ms : List (Str × Str)} {n x : Str} : x ∈ nearL ms n ↔ (n, x) ∈ ms ∨ (x, n) ∈ ms := by
  unfold nearL
  rw [List.mem_flatMap]
  constructor
  · rintro ⟨⟨a, b⟩, hp, hx⟩
    rcases List.mem_append.mp hx with h | h
    · by_cases z : a = n
      · simp only [if_pos z, List.mem_singleton] at h
        subst z h
        exact .inl hp
      · simp [if_neg z] at h
    · by_cases z : b = n
      · simp only [if_pos z, List.mem_singleton] at h
        subst z h
        exact .inr hp
      · simp [if_neg z] at h
  · rintro (h | h)
    · exact ⟨_, h, by simp⟩
    · exact ⟨_, h, by simp⟩
def domNames : List PyData → PyData → Prop := fun ds r => ∃ d ns ms, ds = [d] ∧ ChartIs d ns ms ∧ r = .tuple (ns.map PyData.str)
def domNear : List PyData → PyData → Prop := fun ds r => ∃ d ns ms, ds = [d] ∧ ChartIs d ns ms ∧ r = nearD ns ms
end

/-! ### lists kept in a dict while they grow -/
def dk (as : List (Str × Addr)) : List (Key × V) := as.map fun p => (Sum.inr p.1, V.ref p.2)
theorem dk_look : ∀ {as : List (Str × Addr)} {x : Str} {p : Addr}, (as.map (·.1)).Nodup → (x, p) ∈ as → valV (dk as) (.inr x : Key) = some (.ref p)
  | [], _, _, _, h => by cases h
  | (y, q) :: r, x, p, nd, h => by
    rw [List.map_cons, List.nodup_cons] at nd
    by_cases z : y = x
    · subst z
      rcases List.mem_cons.mp h with e | h
      · cases e; exact valV_pos rfl
      · exact absurd (List.mem_map_of_mem h) nd.1
    · rcases List.mem_cons.mp h with e | h
      · cases e; exact absurd rfl z
      · show valV ((Sum.inr y, V.ref q) :: dk r) _ = _
        rw [valV_neg (fun e => z (Sum.inr.inj e))]
        exact dk_look nd.2 h
structure Nr (H0 Hd H : Hp) (a : Addr) (as : List (Str × Addr)) (c : Str → List Str) : Prop where
  n0 : H0 a = none
  nd : Hd a = none
  l : ∀ p ∈ as, H0 p.2 = none ∧ Hd p.2 = none ∧ p.2 ≠ a ∧ H p.2 = some (.lst ((c p.1).map V.str))
  kd : (as.map (·.1)).Nodup
  ad : (as.map (·.2)).Nodup
theorem addr_ne {as : List (Str × Addr)} (kd : (as.map (·.2)).Nodup) {p q : Str × Addr} (hp : p ∈ as) (hq : q ∈ as) (h : p.2 = q.2) : p = q := by
  induction as with
  | nil => cases hp
  | cons r t ih =>
    rw [List.map_cons, List.nodup_cons] at kd
    rcases List.mem_cons.mp hp with e | hp'
    · rcases List.mem_cons.mp hq with e2 | hq'
      · rw [e, e2]
      · subst e
        exact absurd (List.mem_map_of_mem (f := (·.2)) hq') (by rw [← h]; exact kd.1)
    · rcases List.mem_cons.mp hq with e2 | hq'
      · subst e2
        exact absurd (List.mem_map_of_mem (f := (·.2)) hp') (by rw [h]; exact kd.1)
      · exact ih kd.2 hp' hq'
theorem Nr.app {H0 Hd H : Hp} {a : Addr} {as : List (Str × Addr)} {c : Str → List Str} (h : Nr H0 Hd H a as c) {x y : Str} {p : Addr} (hp : (x, p) ∈ as) : Nr H0 Hd (upd H p (.lst ((c x ++ [y]).map V.str))) a as (fun n => if n = x then c n ++ [y] else c n) := by
  refine ⟨h.n0, h.nd, fun q hq => ?_, h.kd, h.ad⟩
  obtain ⟨h1, h2, h3, h4⟩ := h.l q hq
  refine ⟨h1, h2, h3, ?_⟩
  by_cases z : q.2 = p
  · have e := addr_ne h.ad hq hp z
    subst e
    rw [upd_same]
    simp
  · rw [upd_ne z, h4]
    have nx : q.1 ≠ x := fun e => by
      obtain ⟨q1, q2⟩ := q
      simp only at e
      subst e
      have i1 := dk_look h.kd hq
      have i2 := dk_look h.kd hp
      rw [i1] at i2
      cases i2
      exact z rfl
    rw [if_neg nx]
theorem Nr.ext {H0 Hd H Hd' H' : Hp} {a : Addr} {as : List (Str × Addr)} {c : Str → List Str} (h : Nr H0 Hd H a as c) (ha : ∃ o, H a = some o) (x : Ext Hd H Hd' H') : Nr H0 Hd' H' a as c := by
  obtain ⟨o, ho⟩ := ha
  refine ⟨h.n0, x.f _ _ h.nd ho, fun q hq => ?_, h.kd, h.ad⟩
  obtain ⟨h1, h2, h3, h4⟩ := h.l q hq
  exact ⟨h1, x.f _ _ h2 h4, h3, x.h _ _ h4⟩
def G.noD : G → Bool
  | .ownD _ => false
  | _ => true
theorem En.mutO {K : PySem.W.Frag} {Hd0 H0 Hd H : Hp} {Γ : List G} {σ : L2.St} (e : En K Hd0 H0 Γ σ Hd H) {p : Addr} {o : HO} (n0 : H0 p = none) (nd : Hd p = none) (no : ∀ (i : Nat) (ds : List PyData), Γ[i]? ≠ some (G.own ds)) (nD : Γ.all G.noD = true) : En K Hd0 H0 Γ σ Hd (upd H p o) := by
  refine ⟨e.x.mut n0 nd, e.l, fun i g hg => ?_, e.o⟩
  have q := e.g i g hg
  cases g with
  | own ds => exact absurd hg (no i ds)
  | ownD ds => exact nomatch (List.all_eq_true.mp nD _ (List.mem_of_getElem? hg))
  | any => trivial
  | val v => exact q
  | dat d => exact q
/-- near[x].append(y) -/
theorem app_near {K : PySem.W.Frag} {H0 Hd H : Hp} {σ : L2.St} {D : Ends} {a p : Addr} {as : List (Str × Addr)} {c : Str → List Str} {i j k : Nat} {x y : Str} (h : Nr H0 Hd H a as c) (ha : H a = some (.dK (dk as))) (hk : σ[k]? = some (some (.ref a))) (hi : σ[i]? = some (some (.str x))) (hj : σ[j]? = some (some (.str y)))
    (hp : (x, p) ∈ as) (hl : (c x).length < 1000) (q : D.nx σ (upd H p (.lst ((c x ++ [y]).map V.str)))) : tDrop (tBM K "list" rAppend (tDGet (tVar k) (tVar i)) (tCons (tVar j) tNil)) D σ H := by
  obtain ⟨_, _, _, h4⟩ := h.l _ hp
  refine ⟨_, hk, _, hi, a, .ref p, rfl, ?_, tyV_list h4, _, hj, p, _, .str y, rfl, rfl, h4, ?_, ?_⟩
  · rw [← dk_look h.kd hp]
    exact DGet.k (k := Sum.inr x) ha
  · rw [List.length_map]
    exact Nat.lt_of_lt_of_le hl (by decide)
  · rw [List.map_append] at q
    exact q
end DL

namespace DL
open PySem PySem.Spec PyProof.Rows L2
open Evl (Ex)
open RZ
/-! ### the rules with the written part named -/
section
variable (K : PySem.W.Frag) {X : Cx}
theorem ixS (h : X.K = K := by rfl) : IxR X (rIx K) := h ▸ ix_seq
theorem lenS (h : X.K = K := by rfl) : CallR X (.builtin "len") (rLenOf K) := h ▸ call_len_seq
theorem tupS (h : X.K = K := by rfl) : CallR X (.type "tuple") (rTupOf K) := h ▸ call_tuple_of
theorem listS (h : X.K = K := by rfl) : CallR X (.type "list") (rListOf K) := h ▸ call_list_of
theorem allS (h : X.K = K := by rfl) (hc : X.calm = true := by rfl) : CallR X (.builtin "all") (rAll K) := h ▸ cr_all hc
theorem sortedSS (h : X.K = K := by rfl) : CallR X (.builtin "sorted") (rSortedS K) := h ▸ cr_sortedS
theorem isiS (h : X.K = K := by rfl) : CallR X (.builtin "isinstance") (rIsi K) := h ▸ call_isi
theorem isiTS (h : X.K = K := by rfl) : CallR X (.builtin "isinstance") (rIsiT K) := h ▸ call_isiT
theorem inS (h : X.K = K := by rfl) : OpR X (compareOp .In) (rIn K false) := h ▸ op_in_seq
theorem ninS (h : X.K = K := by rfl) : OpR X (compareOp .NotIn) (rIn K true) := h ▸ op_notIn_seq
theorem eqS (hu : X.A.units + 64 < cLine) (h : X.K = K := by rfl) : OpR X (compareOp .Eq) (rEqD K) := h ▸ op_eqD hu
theorem neS (hu : X.A.units + 64 < cLine) (h : X.K = K := by rfl) : OpR X (compareOp .NotEq) (rNeD K) := h ▸ op_neD hu
theorem slL (h : X.K = K := by rfl) : SlR X (rSlL K) := h ▸ sl_list
theorem slT (h : X.K = K := by rfl) : SlR X (rSlA K) := h ▸ sl_tupA
theorem catT (h : X.K = K := by rfl) : OpR X (binaryOp .Add) (rCatA K) := h ▸ op_catA
theorem repT (h : X.K = K := by rfl) : OpR X (binaryOp .Mult) (rRepT K) := h ▸ op_repT
variable {tl : TE} {ta : TA} {tg l e e2 : Expr}
theorem piList (hl : PE X l tl) (h : X.K = K := by rfl) : PI X tg l (iList K tl) := h ▸ pi_list hl
theorem piTup (hl : PE X l tl) (h : X.K = K := by rfl) : PI X tg l (iTup K tl) := h ▸ pi_tup hl
theorem piSeq (hl : PE X l tl) (h : X.K = K := by rfl) : PI X tg l (iSeq K tl) := h ▸ pi_seq hl
theorem piEnum {p pos tpos : Pos} {elts : List Expr} {kk : Nat} (hg : Gl X "enumerate") (hm : X.mg "enumerate" = none) (ha : PA X [e] ta) (hs : starEach [e] X.env = [(false, eval e X.env)] := by rfl) (h : X.K = K := by rfl) :
    PI X (.Tuple elts kk tpos) (.Call (.Name "enumerate" p) [e] [] pos) (iEnum K ta) := h ▸ pi_enum hg hm ha hs
theorem piZip {p pos tpos : Pos} {elts : List Expr} {kk : Nat} (hg : Gl X "zip") (hm : X.mg "zip" = none) (ha : PA X [e, e2] ta)
    (hs : starEach [e, e2] X.env = (false, eval e X.env) :: starEach [e2] X.env := by rfl) (hpl : (backTo pos (starEach [e2] X.env)).any (·.1) = false := by rfl) (h : X.K = K := by rfl) :
    PI X (.Tuple elts kk tpos) (.Call (.Name "zip" p) [e, e2] [] pos) (iZipA K ta) := h ▸ pi_zipA hg hm ha hs hpl
variable {pos : Pos} {es : List Expr} {k n : Nat} {t : TGs}
theorem pgTup (hc : X.calm = true) (hp : PGs X es t) (hn : (assignEach es X.env).length = n := by rfl) (hst : (assignEach es X.env).findIdx? (·.1) = none := by rfl) (h : X.K = K := by rfl) : PG X (.Tuple es k pos) (gTup K n t) := h ▸ pg_tup hc hp hn hst
theorem pgSeq (hc : X.calm = true) (hp : PGs X es t) (hn : (assignEach es X.env).length = n := by rfl) (hst : (assignEach es X.env).findIdx? (·.1) = none := by rfl) (h : X.K = K := by rfl) : PG X (.Tuple es k pos) (gSeq K n t) := h ▸ pg_seq hc hp hn hst
end
end DL

namespace DL
open PySem PySem.Spec PyProof.Rows L2
open Evl (Ex)
open RZ
theorem lookD_map {F : Str → PyData} {a : Str} : ∀ {ns : List Str}, lookD (ns.map fun n => (.str n, F n)) a = if a ∈ ns then some (F a) else none
  | [] => rfl
  | n :: r => by
    have ih := lookD_map (F := F) (a := a) (ns := r)
    unfold lookD at ih ⊢
    rw [List.map_cons, List.find?_cons]
    by_cases z : n = a
    · subst z
      simp
    · have z' : ¬ a = n := fun q => z q.symm
      simp only [decide_eq_false z]
      rw [ih]
      simp [z']
/-- a text of the row, one of ns -/
def strIn (ns : List Str) : PyData → Bool
  | .str s => decide (s ∈ ns)
  | _ => false
def stepOk (ms : List (Str × Str)) (x y : PyData) : Bool := match x, y with
  | .str a, .str b => decide (b ∈ nearL ms a)
  | _, _ => false
def isWalkB (ns : List Str) (ms : List (Str × Str)) : PyData → Bool
  | .tuple xs => decide (xs.length ≠ 0) && (xs.all (strIn ns) && (xs.zip (xs.drop 1)).all fun p => stepOk ms p.1 p.2)
  | _ => false
def domWalk : List PyData → PyData → Prop := fun ds r => ∃ d ns ms th, ds = [d, th] ∧ ChartIs d ns ms ∧ fine th = true ∧ r = .bool (isWalkB ns ms th)
theorem cutD_from1 (xs : List PyData) : cutD xs (some 1) none = xs.drop 1 := by
  unfold cutD
  rw [HT.sIx_none, show HT.sIx xs.length 0 (some 1) = min 1 xs.length from HT.sIx_nat xs.length 0 1]
  cases xs with
  | nil => rfl
  | cons x r =>
    rw [Nat.min_eq_left (by simp)]
    exact List.take_of_length_le (by simp)
theorem map_bool {f : PyData → Bool} (xs : List PyData) : xs.map (fun x => PyData.bool (f x)) = (xs.map f).map PyData.bool := by
  rw [List.map_map]
  rfl
theorem all_map_id {α : Type} {f : α → Bool} (xs : List α) : (xs.map f).all id = xs.all f := by
  rw [List.all_map]
  rfl
def pairStep (ms : List (Str × Str)) : PyData → PyData
  | .tuple [x, y] => .bool (stepOk ms x y)
  | _ => .none
theorem map_pairStep (ms : List (Str × Str)) (xs ys : List PyData) : (zipD xs ys).map (pairStep ms) = ((xs.zip ys).map fun p => stepOk ms p.1 p.2).map PyData.bool := by
  unfold zipD
  rw [List.map_map, List.map_map]
  rfl
section
variable {K : PySem.W.Frag} {Γ : List G} {d : PyData}
theorem ret_false {b : Bool} (h : b = false) : SD K (tRet (tC (.bl false))) Γ (.rt (.bool b)) := by
  subst h
  exact sd_ret ed_bl
end
end DL

namespace DL
open PySem PySem.Spec PyProof.Rows L2
open Evl (Ex)
open RZ
/-! ### code that draws: the source at p changes, all else stays -/
def hid (p : Addr) (H : Hp) : Hp := fun a => if a = p then none else H a
theorem hid_same {p : Addr} {H : Hp} : hid p H p = none := by unfold hid; rw [if_pos rfl]
theorem hid_ne {p a : Addr} {H : Hp} (h : a ≠ p) : hid p H a = H a := by unfold hid; rw [if_neg h]
theorem hid_ex {p : Addr} {H : Hp} : Ex (hid p H) H := fun a o h => by
  by_cases z : a = p
  · subst z; rw [hid_same] at h; cases h
  · rw [hid_ne z] at h; exact h
theorem hid_mono {p : Addr} {H H' : Hp} (e : Ex H H') : Ex (hid p H) (hid p H') := fun a o h => by
  by_cases z : a = p
  · subst z; rw [hid_same] at h; cases h
  · rw [hid_ne z] at h ⊢; exact e _ _ h
/-- what is known within a def that draws -/
structure EnB (K : PySem.W.Frag) (p : Addr) (Hd0 H0 : Hp) (Γ : List G) (c : Nat) (σ : L2.St) (Hd H : Hp) : Prop where
  en : En K Hd0 H0 Γ σ Hd H
  d : Hd p = none
  z : H0 p = none
  b : ∃ o, H p = some o ∧ BoxO c o
  o : ∀ (i : Nat) (ds : List PyData), Γ[i]? = some (G.own ds) → σ[i]? ≠ some (some (.ref p))
section
variable {K : PySem.W.Frag} {p : Addr} {Hd0 H0 Hd H Hd' H' : Hp} {Γ Δ : List G} {c n m : Nat} {σ : L2.St}
/-- pure steps -/
theorem EnB.ext (e : EnB K p Hd0 H0 Γ c σ Hd H) (x : Ext Hd H Hd' H') : EnB K p Hd0 H0 Γ c σ Hd' H' := by
  obtain ⟨o, ho, hb⟩ := e.b
  exact ⟨e.en.ext x, x.f _ _ e.d ho, e.z, ⟨o, x.h _ _ ho, hb⟩, e.o⟩
theorem EnB.mono (e : EnB K p Hd0 H0 Γ c σ Hd H) (h : c ≤ m) : EnB K p Hd0 H0 Γ m σ Hd H := by
  obtain ⟨o, ho, hb⟩ := e.b
  exact ⟨e.en, e.d, e.z, ⟨o, ho, hb.mono h⟩, e.o⟩
/-- a step that draws -/
theorem EnB.draw (e : EnB K p Hd0 H0 Γ c σ Hd H) (x : Ext Hd (hid p H) Hd' H') (hd : Hd' p = none) (hb : ∃ o, H' p = some o ∧ BoxO m o) : EnB K p Hd0 H0 Γ m σ Hd' H' := by
  refine ⟨⟨⟨e.en.x.d.trans x.d, fun a o h => ?_, x.i, fun a o h1 h2 => ?_⟩, e.en.l, fun i g hg => ?_, e.en.o⟩, hd, e.z, hb, e.o⟩
  · have np : a ≠ p := fun q => by subst q; rw [e.z] at h; cases h
    exact x.h _ _ (by rw [hid_ne np]; exact e.en.x.h _ _ h)
  · have np : a ≠ p := fun q => by subst q; rw [e.z] at h2; cases h2
    exact x.f a o (e.en.x.f a o h1 h2) (by rw [hid_ne np]; exact e.en.x.h _ _ h2)
  · have q := e.en.g i g hg
    cases g with
    | any => trivial
    | val v => exact q
    | dat d =>
      obtain ⟨v, h1, h2⟩ := q
      exact ⟨v, h1, h2.mono x.d⟩
    | own ds =>
      obtain ⟨a, vs, h1, h0, h2, h3, h4⟩ := q
      have np : a ≠ p := fun z => by subst z; exact e.o i ds hg h1
      have h3' : hid p H a = some (.lst vs) := by rw [hid_ne np]; exact h3
      exact ⟨a, vs, h1, h0, x.f _ _ h2 h3', x.h _ _ h3', h4.mono x.d⟩
    | ownD ds =>
      obtain ⟨a, u, h1, h0, h2, h3, h4⟩ := q
      have np : a ≠ p := fun z => by
        subst z
        obtain ⟨o', ho', hb'⟩ := e.b
        rw [h3] at ho'
        cases ho'
        obtain ⟨_, _, _, eo, _⟩ := hb'
        exact h4.nl eo
      have h3' : hid p H a = some u := by rw [hid_ne np]; exact h3
      exact ⟨a, u, h1, h0, x.f _ _ h2 h3', x.h _ _ h3', h4.mono x.d⟩
theorem ext_hid {o : HO} (e : Ex Hd H) (hd : Hd p = none) : Ext Hd (hid p H) Hd (upd H p o) :=
  ⟨.refl _, fun a u h => by
    have np : a ≠ p := fun q => by subst q; rw [hid_same] at h; cases h
    rw [hid_ne np] at h
    rw [upd_ne np]
    exact h, fun a u h => by
    have np : a ≠ p := fun q => by subst q; rw [hd] at h; cases h
    rw [upd_ne np]
    exact e _ _ h, fun _ _ h _ => h⟩
theorem Ext.hidE (x : Ext Hd H Hd' H') : Ext Hd (hid p H) Hd' H' := ⟨x.d, hid_ex.trans x.h, x.i, fun a o h1 h2 => x.f a o h1 (hid_ex _ _ h2)⟩
theorem Ext.hid2 {B C : Hp} (x : Ext Hd (hid p H) Hd' H') (y : Ext Hd' (hid p H') B C) : Ext Hd (hid p H) B C := by
  refine ⟨x.d.trans y.d, fun a o h => ?_, y.i, fun a o h1 h2 => ?_⟩
  · have np : a ≠ p := fun q => by subst q; rw [hid_same] at h; cases h
    exact y.h _ _ (by rw [hid_ne np]; exact x.h _ _ h)
  · have np : a ≠ p := fun q => by subst q; rw [hid_same] at h2; cases h2
    exact y.f a o (x.f a o h1 h2) (by rw [hid_ne np]; exact x.h _ _ h2)
end
section
variable (K : PySem.W.Frag) (p : Addr)
/-- te draws at most n times and gives some data of which R is true -/
def EB (te : TE) (Γ : List G) (n : Nat) (R : PyData → Prop) : Prop := ∀ Hd0 H0 c σ Hd H, EnB K p Hd0 H0 Γ c σ Hd H → c + n < 2 ^ 60 → ∀ Q : VK, (∀ v r Hd' H', R r → Ext Hd (hid p H) Hd' H' → EnB K p Hd0 H0 Γ (c + n) σ Hd' H' → Dt K Hd' v r → Q v H') → te σ H Q
def EAB (ta : TA) (Γ : List G) (n : Nat) (R : List PyData → Prop) : Prop := ∀ Hd0 H0 c σ Hd H, EnB K p Hd0 H0 Γ c σ Hd H → c + n < 2 ^ 60 → ∀ Q : List V → Hp → Prop, (∀ vs rs Hd' H', R rs → Ext Hd (hid p H) Hd' H' → EnB K p Hd0 H0 Γ (c + n) σ Hd' H' → DtA K Hd' vs rs → Q vs H') → ta σ H Q
def EIB (wi : TI) (Γ : List G) (n : Nat) (R : List PyData → Prop) : Prop := ∀ Hd0 H0 c σ Hd H, EnB K p Hd0 H0 Γ c σ Hd H → c + n < 2 ^ 60 → ∀ S : It → Hp → Prop, (∀ J rs Hd' H', R rs → Ext Hd (hid p H) Hd' H' → EnB K p Hd0 H0 Γ (c + n) σ Hd' H' → ItOk K J Hd' rs → S J H') → wi σ H S
end
section
variable {K : PySem.W.Frag} {p : Addr} {Γ Δ : List G} {n m : Nat} {ta tb te : TE} {d : PyData} {ds : List PyData} {R R1 R2 : PyData → Prop}
theorem EB.le (h : EB K p te Γ n R) (hn : n ≤ m) : EB K p te Γ m R := fun _ _ c σ Hd H e hc Q q =>
  h _ _ c σ Hd H e (by omega) Q fun v r Hd' H' hr x e' dv => q v r Hd' H' hr x (e'.mono (by omega)) dv
theorem EB.imp {R' : PyData → Prop} (h : EB K p te Γ n R) (hi : ∀ r, R r → R' r) : EB K p te Γ n R' := fun _ _ c σ Hd H e hc Q q =>
  h _ _ c σ Hd H e hc Q fun v r Hd' H' hr x e' dv => q v r Hd' H' (hi r hr) x e' dv
theorem ED.b (h : ED K te Γ d) : EB K p te Γ 0 (fun r => r = d) := fun _ _ c σ Hd H e _ Q q =>
  h _ _ σ Hd H e.en Q fun v Hd' H' x dv => q v d Hd' H' rfl x.hidE (e.ext x) dv
theorem eb_op {r : L2.R2} (h1 : EB K p ta Γ n R1) (h2 : EB K p tb Γ m R2) (hr : ∀ x y, R1 x → R2 y → ∃ z, RD K r x y z ∧ R z) : EB K p (tOp r ta tb) Γ (n + m) R := fun _ _ c σ Hd H e hc Q q =>
  h1 _ _ c σ Hd H e (by omega) _ fun v x Hd1 H1 hx x1 e1 d1 => h2 _ _ _ σ Hd1 H1 e1 (by omega) _ fun w y Hd2 H2 hy x2 e2 d2 => by
    obtain ⟨z, hz, rz⟩ := hr x y hx hy
    refine hz Hd2 H2 v w x2.i (d1.mono x2.d) d2 Q fun u Hd3 H3 x3 d3 => q u z Hd3 H3 rz ((x1.hid2 x2).hid2 x3.hidE) ?_ d3
    have := e2.ext x3
    rw [Nat.add_assoc] at this
    exact this
theorem eab_nil : EAB K p tNil Γ 0 (fun rs => rs = []) := fun _ _ c σ Hd H e _ Q q => q [] [] Hd H rfl (Ext.refl e.en.x.i).hidE e .nil
theorem eab_cons {tr : TA} {S : List PyData → Prop} (h : EB K p ta Γ n R) (hr : EAB K p tr Γ m S) : EAB K p (tCons ta tr) Γ (n + m) (fun rs => ∃ r rr, rs = r :: rr ∧ R r ∧ S rr) := fun _ _ c σ Hd H e hc Q q =>
  h _ _ c σ Hd H e (by omega) _ fun v r Hd1 H1 h1 x1 e1 d1 => hr _ _ _ σ Hd1 H1 e1 (by omega) _ fun vs rr Hd2 H2 h2 x2 e2 d2 =>
    q _ _ Hd2 H2 ⟨r, rr, rfl, h1, h2⟩ (x1.hid2 x2) (by have := e2; rw [Nat.add_assoc] at this; exact this) (.cons (d1.mono x2.d) d2)
theorem EAB.imp {ta : TA} {S S' : List PyData → Prop} (h : EAB K p ta Γ n S) (hi : ∀ r, S r → S' r) : EAB K p ta Γ n S' := fun _ _ c σ Hd H e hc Q q =>
  h _ _ c σ Hd H e hc Q fun v r Hd' H' hr x e' dv => q v r Hd' H' (hi r hr) x e' dv
theorem EA.b {ta : TA} (h : EA K ta Γ ds) : EAB K p ta Γ 0 (fun rs => rs = ds) := fun _ _ c σ Hd H e _ Q q =>
  h _ _ σ Hd H e.en Q fun v Hd' H' x dv => q v ds Hd' H' rfl x.hidE (e.ext x) dv
/-- a call of a built-in -/
theorem eb_cb {ta : TA} {r : List V → Hp → VK → Prop} {S : List PyData → Prop} (h : EAB K p ta Γ n S) (hr : ∀ xs, S xs → ∃ z, CD K r xs z ∧ R z) : EB K p (tCB r ta) Γ n R := fun _ _ c σ Hd H e hc Q q =>
  h _ _ c σ Hd H e hc _ fun vs xs Hd1 H1 hx x1 e1 d1 => by
    obtain ⟨z, hz, rz⟩ := hr xs hx
    exact hz Hd1 H1 vs x1.i d1 Q fun u Hd2 H2 x2 d2 => q u z Hd2 H2 rz (x1.hid2 x2.hidE) (e1.ext x2) d2
theorem eb_tup {ta : TA} {S : List PyData → Prop} (h : EAB K p ta Γ n S) (hl : ∀ xs, S xs → xs.length ≤ 100000) : EB K p (tTup ta) Γ n (fun r => ∃ xs, r = .tuple xs ∧ S xs) := fun _ _ c σ Hd H e hc Q q =>
  h _ _ c σ Hd H e hc _ fun vs xs Hd1 H1 hx x1 e1 d1 => ⟨fits_of (d1.length ▸ hl xs hx), fun a ha => by
    have y : Ext Hd1 H1 (upd Hd1 a (.tup vs)) (upd H1 a (.tup vs)) := (Ext.refl x1.i).new ha
    exact q _ _ _ _ ⟨xs, rfl, hx⟩ (x1.hid2 y.hidE) (e1.ext y) (.tup upd_same (d1.mono (Ex.new (Evl.fresh_back x1.i ha))))⟩
theorem eb_lst {ta : TA} {S : List PyData → Prop} (h : EAB K p ta Γ n S) (hl : ∀ xs, S xs → xs.length ≤ 100000) : EB K p (tLst ta) Γ n (fun r => ∃ xs, r = .list xs ∧ S xs) := fun _ _ c σ Hd H e hc Q q =>
  h _ _ c σ Hd H e hc _ fun vs xs Hd1 H1 hx x1 e1 d1 => ⟨fits_of (d1.length ▸ hl xs hx), fun a ha => by
    have y : Ext Hd1 H1 (upd Hd1 a (.lst vs)) (upd H1 a (.lst vs)) := (Ext.refl x1.i).new ha
    exact q _ _ _ _ ⟨xs, rfl, hx⟩ (x1.hid2 y.hidE) (e1.ext y) (.lst upd_same (d1.mono (Ex.new (Evl.fresh_back x1.i ha))))⟩
/-- a draw -/
theorem eb_take {i : Nat} {top : Int} (hi : Γ[i]? = some (.val (.ref p))) (ht : ED K tb Γ (.int top)) (h1 : 1 ≤ top) (h2 : top < 1073741824) : EB K p (tCall spTake [] E0 (tCons (tVar i) (tCons tb tNil))) Γ 1 (fun r => ∃ k : Int, r = .int k ∧ 0 ≤ k ∧ k < top) := fun _ _ c σ Hd H e hc Q q =>
  ⟨_, e.en.g i _ hi, ht _ _ σ Hd H e.en _ fun v Hd1 H1 x1 d1 => by
    cases d1
    have e1 := e.ext x1
    obtain ⟨o, ho, hb⟩ := e1.b
    refine ⟨p, top, c, o, rfl, h1, h2, ho, hb, by omega, fun r o' hr0 hr1 hb' => ?_⟩
    have x2 := ext_hid (o := o') x1.i e1.d
    exact q _ _ Hd1 _ ⟨r, rfl, hr0, hr1⟩ (x1.hidE.hid2 x2) (e1.draw x2 e1.d ⟨o', upd_same, hb'⟩) (.int r)⟩
theorem eb_takeB {i : Nat} {R1 : PyData → Prop} {b : Int} (hi : Γ[i]? = some (.val (.ref p))) (ht : EB K p tb Γ n R1) (h1 : ∀ r, R1 r → ∃ top : Int, r = .int top ∧ 1 ≤ top ∧ top < 1073741824 ∧ top ≤ b) : EB K p (tCall spTake [] E0 (tCons (tVar i) (tCons tb tNil))) Γ (n + 1) (fun r => ∃ k : Int, r = .int k ∧ 0 ≤ k ∧ k < b) := fun _ _ c σ Hd H e hc Q q =>
  ⟨_, e.en.g i _ hi, ht _ _ c σ Hd H e (by omega) _ fun v r0 Hd1 H1 hr0 x1 e1 d1 => by
    obtain ⟨top, rfl, t1, t2, t3⟩ := h1 r0 hr0
    cases d1
    obtain ⟨o, ho, hb⟩ := e1.b
    refine ⟨p, top, c + n, o, rfl, t1, t2, ho, hb, by omega, fun r o' hr0 hr1 hb' => ?_⟩
    have x2 := ext_hid (o := o') x1.i e1.d
    exact q _ _ Hd1 _ ⟨r, rfl, hr0, by omega⟩ (x1.hid2 x2) (e1.draw x2 e1.d ⟨o', upd_same, hb'⟩) (.int r)⟩
/-- one of a list's items -/
theorem eb_of {i : Nat} (hi : Γ[i]? = some (.val (.ref p))) (ht : ED K tb Γ (.list ds)) (h1 : 1 ≤ ds.length) (h2 : ds.length < 1000000) : EB K p (tCall spOf [] E0 (tCons (tVar i) (tCons tb tNil))) Γ 1 (fun r => r ∈ ds) := fun _ _ c σ Hd H e hc Q q =>
  ⟨_, e.en.g i _ hi, ht _ _ σ Hd H e.en _ fun v Hd1 H1 x1 d1 => by
    cases d1 with
    | @lst a ws _ g1 g2 =>
      have e1 := e.ext x1
      obtain ⟨o, ho, hb⟩ := e1.b
      have hap : a ≠ p := fun z => by
        subst z
        rw [e1.d] at g1
        cases g1
      have hl := g2.length
      refine ⟨p, a, ws, c, o, rfl, x1.i _ _ g1, hap, by omega, by omega, ho, hb, by omega, fun v o' hv hb' => ?_⟩
      obtain ⟨k, hk⟩ := List.getElem?_of_mem hv
      obtain ⟨d, hd, dv⟩ := g2.get hk
      have x2 := ext_hid (o := o') x1.i e1.d
      exact q _ _ Hd1 _ (List.mem_of_getElem? hd) (x1.hidE.hid2 x2) (e1.draw x2 e1.d ⟨o', upd_same, hb'⟩) dv⟩
end
end DL

namespace DL
open PySem PySem.Spec PyProof.Rows L2
open Evl (Ex)
open RZ
section
variable {K : PySem.W.Frag} {p : Addr} {Hd0 H0 Hd H Hd' H' : Hp} {Γ Δ : List G} {c n m : Nat} {σ : L2.St}
theorem EnB.set (e : EnB K p Hd0 H0 Γ c σ Hd H) {i : Nat} {v : V} {d : PyData} (hd : Dt K Hd v d) : EnB K p Hd0 H0 (Γ.set i (.dat d)) c (σ.set i (some v)) Hd H := by
  refine ⟨e.en.set hd, e.d, e.z, e.b, fun j ds hj => ?_⟩
  by_cases z : i = j
  · subst z; exact nomatch get_set_eq hj
  · rw [List.getElem?_set_ne z] at hj ⊢
    exact e.o j ds hj
theorem EnB.weak (e : EnB K p Hd0 H0 Γ c σ Hd H) {i : Nat} : EnB K p Hd0 H0 (Γ.set i .any) c σ Hd H := by
  refine ⟨e.en.weak, e.d, e.z, e.b, fun j ds hj => ?_⟩
  by_cases z : i = j
  · subst z; exact nomatch get_set_eq hj
  · rw [List.getElem?_set_ne z] at hj
    exact e.o j ds hj
theorem EnB.wipe (e : EnB K p Hd0 H0 Γ c σ Hd H) : ∀ vs : List Nat, EnB K p Hd0 H0 (wipeG Γ vs) c (L2.wipe σ vs) Hd H
  | [] => e
  | v :: vs => by
    have h := EnB.wipe e vs
    refine ⟨h.en.forget, h.d, h.z, h.b, fun j ds hj => ?_⟩
    have hj' : ((wipeG Γ vs).set v .any)[j]? = some (G.own ds) := hj
    show ((L2.wipe σ vs).set v none)[j]? ≠ _
    by_cases z : v = j
    · subst z; exact nomatch get_set_eq hj'
    · rw [List.getElem?_set_ne z] at hj' ⊢
      exact h.o j ds hj'
theorem EnB.setOwn (e : EnB K p Hd0 H0 Γ c σ Hd H) {i : Nat} {a : Addr} {ws : List V} {ds : List PyData} (n0 : H0 a = none) (n1 : Hd a = none) (h : H a = some (.lst ws)) (hd : DtA K Hd ws ds) (hp : a ≠ p)
    (new : ∀ (j : Nat) (es : List PyData), Γ[j]? = some (G.own es) → σ[j]? ≠ some (some (V.ref a))) : EnB K p Hd0 H0 (Γ.set i (.own ds)) c (σ.set i (some (.ref a))) Hd H := by
  refine ⟨e.en.setOwn n0 n1 h hd new, e.d, e.z, e.b, fun j es hj => ?_⟩
  by_cases z : i = j
  · subst z
    have hi : i < σ.length := by
      have := (List.getElem?_eq_some_iff.mp hj).1
      rw [← e.en.l]
      simpa using this
    rw [List.getElem?_set_self hi]
    intro q
    exact hp (V.ref.inj (Option.some.inj (Option.some.inj q)))
  · rw [List.getElem?_set_ne z] at hj ⊢
    exact e.o j es hj
/-- an own list is changed -/
theorem EnB.change (e : EnB K p Hd0 H0 Γ c σ Hd H) {i : Nat} {a : Addr} {ds es : List PyData} {ws : List V} (hi : Γ[i]? = some (.own ds)) (hs : σ[i]? = some (some (.ref a))) (hw : DtA K Hd ws es) : EnB K p Hd0 H0 (Γ.set i (.own es)) c σ Hd (upd H a (.lst ws)) := by
  obtain ⟨b, vs, s1, n0, n1, h1, d1⟩ := e.en.own hi
  rw [hs] at s1
  cases s1
  have hap : a ≠ p := fun z => by subst z; exact e.o i ds hi hs
  refine ⟨⟨e.en.x.mut n0 n1, by simp [e.en.l], fun j g hg => ?_, fun j k fs gs w hjk g1 g2 => ?_⟩, e.d, e.z, ?_, fun j fs hj => ?_⟩
  · by_cases z : i = j
    · subst z
      have q := get_set_eq hg
      subst q
      exact ⟨a, ws, hs, n0, n1, upd_same, hw⟩
    · rw [List.getElem?_set_ne z] at hg
      have q := e.en.g j g hg
      cases g with
      | any => trivial
      | val v => exact q
      | dat d => exact q
      | own fs =>
        obtain ⟨b, us, k1, k0, k2, k3, k4⟩ := q
        have nb : b ≠ a := fun zb => by
          subst zb
          exact e.en.o i j ds fs _ z hi hg hs k1
        exact ⟨b, us, k1, k0, k2, by rw [upd_ne nb]; exact k3, k4⟩
      | ownD fs =>
        obtain ⟨b, u, k1, k0, k2, k3, k4⟩ := q
        have nb : b ≠ a := fun zb => by
          subst zb
          rw [h1] at k3
          cases k3
          exact k4.nl rfl
        exact ⟨b, u, k1, k0, k2, by rw [upd_ne nb]; exact k3, k4⟩
  · have aux : ∀ (m : Nat) (l : List PyData), (Γ.set i (.own es))[m]? = some (G.own l) → ∃ l' : List PyData, Γ[m]? = some (G.own l') := fun m l hm => by
      by_cases z : i = m
      · subst z; exact ⟨_, hi⟩
      · rw [List.getElem?_set_ne z] at hm; exact ⟨_, hm⟩
    obtain ⟨l1, a1⟩ := aux j _ g1
    obtain ⟨l2, a2⟩ := aux k _ g2
    exact e.en.o j k l1 l2 w hjk a1 a2
  · obtain ⟨o, ho, hb⟩ := e.b
    exact ⟨o, by rw [upd_ne hap.symm]; exact ho, hb⟩
  · by_cases z : i = j
    · subst z; exact e.o i ds hi
    · rw [List.getElem?_set_ne z] at hj
      exact e.o j fs hj
end
section
variable (K : PySem.W.Frag) (p : Addr)
def GDB (g : TG) (Γ : List G) (d : PyData) (vs : List Nat) (Δ : List G) : Prop := ∀ Hd0 H0 c σ Hd H v, EnB K p Hd0 H0 Γ c σ Hd H → Dt K Hd v d → ∀ Q : L2.St → Hp → Prop, (∀ σ', EnB K p Hd0 H0 Δ c σ' Hd H → wipe σ' vs = wipe σ vs → Q σ' H) → g v σ H Q
/-- a statement that draws at most n times -/
def SB (ts : TS) (Γ : List G) (n : Nat) (On : List G → Prop) (Or : PyData → Prop) : Prop := ∀ Hd0 H0 c σ Hd H, EnB K p Hd0 H0 Γ c σ Hd H → c + n < 2 ^ 60 → ∀ D : Ends,
  (∀ Δ σ' Hd' H', On Δ → EnB K p Hd0 H0 Δ (c + n) σ' Hd' H' → Ex Hd Hd' → D.nx σ' H') → (∀ r v Hd' H', Or r → Ext Hd0 H0 Hd' H' → Hd' p = none → (∃ o, H' p = some o ∧ BoxO (c + n) o) → Dt K Hd' v r → D.rt v H') → ts D σ H
end
section
variable {K : PySem.W.Frag} {p : Addr} {Γ Δ : List G} {n m l : Nat} {ta tb te : TE} {tt : TT} {d x y : PyData} {ds : List PyData} {R R1 R2 : PyData → Prop} {g : TG} {vs : List Nat} {t u : TS} {On On1 : List G → Prop} {Or : PyData → Prop} {b : Bool}
theorem gdb_name {i : Nat} (h : i ∈ vs) : GDB K p (gName i) Γ d vs (Γ.set i (.dat d)) := fun _ _ c σ Hd H v e hd Q q => q _ (e.set hd) (wipe_set h)
theorem gdb_two {i j : Nat} (hi : i ∈ vs) (hj : j ∈ vs) : GDB K p (gTup K 2 (gCons (gName i) (gCons (gName j) gNil))) Γ (.tuple [x, y]) vs ((Γ.set i (.dat x)).set j (.dat y)) := fun _ _ c σ Hd H v e hd Q q => by
  cases hd with
  | tup h1 h2 =>
    cases h2 with
    | cons g1 h2 => cases h2 with
      | cons g2 h2 =>
        cases h2
        exact ⟨_, _, rfl, SqT.of (e.en.x.i _ _ h1), rfl, _, _, rfl, _, _, rfl, rfl, q _ ((e.set g1).set g2) ((wipe_set hj).trans (wipe_set hi))⟩
theorem SB.le (h : SB K p t Γ n On Or) (hn : n ≤ m) : SB K p t Γ m On Or := fun _ _ c σ Hd H e hc D q1 q2 =>
  h _ _ c σ Hd H e (by omega) D (fun Δ σ' Hd' H' o e' x => q1 Δ σ' Hd' H' o (e'.mono (by omega)) x) fun r v Hd' H' o x y ⟨b, hb, hb2⟩ dv => q2 r v Hd' H' o x y ⟨b, hb, hb2.mono (by omega)⟩ dv
theorem SB.imp {On' : List G → Prop} {Or' : PyData → Prop} (h : SB K p t Γ n On Or) (h1 : ∀ Δ, On Δ → On' Δ) (h2 : ∀ r, Or r → Or' r) : SB K p t Γ n On' Or' := fun _ _ c σ Hd H e hc D q1 q2 =>
  h _ _ c σ Hd H e hc D (fun Δ σ' Hd' H' o => q1 Δ σ' Hd' H' (h1 Δ o)) fun r v Hd' H' o => q2 r v Hd' H' (h2 r o)
theorem sb_seq (h : SB K p t Γ n On1 Or) (k : ∀ Δ, On1 Δ → SB K p u Δ m On Or) : SB K p (tSeq t u) Γ (n + m) On Or := fun _ _ c σ Hd H e hc D q1 q2 =>
  h _ _ c σ Hd H e (by omega) _ (fun Δ σ' Hd' H' o e' x => k Δ o _ _ _ σ' Hd' H' e' (by omega) D (fun Θ σ2 Hd2 H2 o2 e2 x2 => q1 Θ σ2 Hd2 H2 o2 (by have := e2; rw [Nat.add_assoc] at this; exact this) (x.trans x2)) fun r v Hd2 H2 o2 x2 y2 b2 dv => q2 r v Hd2 H2 o2 x2 y2 (by have := b2; rw [Nat.add_assoc] at this; exact this) dv)
    fun r v Hd' H' o x y ⟨b, hb, hb2⟩ dv => q2 r v Hd' H' o x y ⟨b, hb, hb2.mono (by omega)⟩ dv
theorem sb_set {i : Nat} (h : EB K p te Γ n R) : SB K p (tAsg te (gName i)) Γ n (fun Δ => ∃ d, R d ∧ Δ = Γ.set i (.dat d)) Or := fun _ _ c σ Hd H e hc D q1 _ =>
  h _ _ c σ Hd H e hc _ fun v r Hd1 H1 hr x1 e1 d1 => q1 _ _ Hd1 H1 ⟨r, hr, rfl⟩ (e1.set d1) x1.d
theorem sb_ret (h : EB K p te Γ n R) : SB K p (tRet te) Γ n On R := fun _ _ c σ Hd H e hc D _ q2 =>
  h _ _ c σ Hd H e hc _ fun v r Hd1 H1 hr x1 e1 d1 => q2 r v Hd1 H1 hr e1.en.x e1.d e1.b d1
theorem sb_own {i : Nat} (h : EF K te Γ ds) : SB K p (tAsg te (gName i)) Γ 0 (fun Δ => Δ = Γ.set i (.own ds)) Or := fun _ _ c σ Hd H e hc D q1 _ =>
  h _ _ σ Hd H e.en _ fun a ws Hd1 H1 x1 n1 n2 h1 d1 => by
    have e1 := e.ext x1
    have hap : a ≠ p := fun z => by
      subst z
      obtain ⟨o, ho, _⟩ := e.b
      rw [n1] at ho
      cases ho
    refine q1 _ _ Hd1 H1 rfl (e1.setOwn (Evl.fresh_back e.en.x.h n1) n2 h1 d1 hap fun j es hj hs => ?_) x1.d
    obtain ⟨b, vs, g1, _, _, g4, _⟩ := e.en.own hj
    rw [hs] at g1
    cases g1
    rw [n1] at g4
    cases g4
/-- name.append(e) of an own list -/
theorem sb_app {i : Nat} (hi : Γ[i]? = some (.own ds)) (h : EB K p te Γ n R) (hl : ds.length < 100000) : SB K p (tDrop (tBM K "list" rAppend (tVar i) (tCons te tNil))) Γ n (fun Δ => ∃ d, R d ∧ Δ = Γ.set i (.own (ds ++ [d]))) Or := fun _ _ c σ Hd H e hc D q1 _ => by
  obtain ⟨a, ws, s1, n0, n1, h1, d1⟩ := e.en.own hi
  refine ⟨_, s1, tyV_list h1, ?_⟩
  refine h _ _ c σ Hd H e hc _ fun v r Hd1 H1 hr x1 e1 dv => ?_
  obtain ⟨a', ws', s1', m0, m1, g1, t1⟩ := e1.en.own hi
  rw [s1] at s1'
  cases s1'
  exact ⟨a, ws', v, rfl, rfl, g1, Nat.lt_of_lt_of_le (by rw [t1.length]; exact hl) (by decide : 100000 ≤ sizeLine), q1 _ σ Hd1 _ ⟨r, hr, rfl⟩ (e1.change hi s1 (t1.append (.cons dv .nil))) x1.d⟩
theorem sb_if (h : ET K tt Γ b) (h1 : b = true → SB K p t Γ n On Or) (h2 : b = false → SB K p u Γ n On Or) : SB K p (tIfS tt t u) Γ n On Or := fun _ _ c σ Hd H e hc D q1 q2 =>
  h _ _ σ Hd H e.en _ fun Hd1 H1 x1 => by
    cases b with
    | true => exact iteT (h1 rfl _ _ c σ Hd1 H1 (e.ext x1) hc D (fun Δ σ' Hd' H' o e' y => q1 Δ σ' Hd' H' o e' (x1.d.trans y)) q2)
    | false => exact iteF (h2 rfl _ _ c σ Hd1 H1 (e.ext x1) hc D (fun Δ σ' Hd' H' o e' y => q1 Δ σ' Hd' H' o e' (x1.d.trans y)) q2)
theorem sb_next : SB K p tNext Γ 0 (fun Δ => Δ = Γ) Or := fun _ _ c σ Hd H e _ D q1 _ => q1 Γ σ Hd H rfl e (.refl _)
/-- an own list becomes data -/
theorem sb_freeze {i : Nat} (hi : Γ[i]? = some (.own ds)) (h : SB K p t (Γ.set i (.dat (.list ds))) n On Or) : SB K p t Γ n On Or := fun Hd0 H0 c σ Hd H e hc D q1 q2 => by
  obtain ⟨a, ws, s1, n0, n1, h1, d1⟩ := e.en.own hi
  have hap : a ≠ p := fun z => by subst z; exact e.o i ds hi s1
  have xe : Ext Hd0 H0 (upd Hd a (.lst ws)) H := e.en.x.take n0 n1 h1
  have en : En K Hd0 H0 (Γ.set i (.dat (.list ds))) σ (upd Hd a (.lst ws)) H := by
    refine ⟨xe, by simp [e.en.l], fun j g hg => ?_, fun j k fs es w hjk g1 g2 => ?_⟩
    · by_cases z : i = j
      · subst z
        have q := get_set_eq hg
        subst q
        exact ⟨_, s1, .lst upd_same (d1.mono (Ex.new n1))⟩
      · rw [List.getElem?_set_ne z] at hg
        have q := e.en.g j g hg
        cases g with
        | any => trivial
        | val v => exact q
        | dat d => obtain ⟨v, k1, k2⟩ := q; exact ⟨v, k1, k2.mono (Ex.new n1)⟩
        | own es =>
          obtain ⟨b, us, k1, k0, k2, k3, k4⟩ := q
          have nb : b ≠ a := fun zb => by
            subst zb
            exact e.en.o i j ds es _ z hi hg s1 k1
          exact ⟨b, us, k1, k0, by rw [upd_ne nb]; exact k2, k3, k4.mono (Ex.new n1)⟩
        | ownD es =>
          obtain ⟨b, u, k1, k0, k2, k3, k4⟩ := q
          have nb : b ≠ a := fun zb => by
            subst zb
            rw [h1] at k3
            cases k3
            exact k4.nl rfl
          exact ⟨b, u, k1, k0, by rw [upd_ne nb]; exact k2, k3, k4.mono (Ex.new n1)⟩
    · have nj : i ≠ j := fun z => by subst z; exact nomatch get_set_eq g1
      have nk : i ≠ k := fun z => by subst z; exact nomatch get_set_eq g2
      rw [List.getElem?_set_ne nj] at g1
      rw [List.getElem?_set_ne nk] at g2
      exact e.en.o j k fs es w hjk g1 g2
  refine h Hd0 H0 c σ _ H ⟨en, by rw [upd_ne hap.symm]; exact e.d, e.z, e.b, fun j fs hj => ?_⟩ hc D (fun Δ σ' Hd' H' o e' x => q1 Δ σ' Hd' H' o e' ((Ex.new n1).trans x)) q2
  by_cases z : i = j
  · subst z; exact nomatch get_set_eq hj
  · rw [List.getElem?_set_ne z] at hj
    exact e.o j fs hj
theorem EI.bb {wi : TI} (h : EI K wi Γ ds) : EIB K p wi Γ 0 (fun rs => rs = ds) := fun _ _ c σ Hd H e _ S q =>
  h _ _ σ Hd H e.en S fun J Hd1 H1 x1 ok => q J ds Hd1 H1 rfl x1.hidE (e.ext x1) ok
theorem eib_rng1 {ta : TA} {S : List PyData → Prop} {M : Nat} (h : EAB K p ta Γ n S) (hn : ∀ xs, S xs → ∃ k : Int, xs = [.int k] ∧ 0 ≤ k ∧ k ≤ M) (hM : M ≤ 100000) : EIB K p (iRng1 ta) Γ n (fun rs => rs.length ≤ M ∧ ∀ r ∈ rs, ∃ j : Nat, r = .int (j : Int)) := fun _ _ c σ Hd H e hc S' q =>
  h _ _ c σ Hd H e hc _ fun vs xs Hd1 H1 hx x1 e1 d1 => by
    obtain ⟨k, rfl, k0, k1⟩ := hn xs hx
    cases d1 with
    | cons d1 d2 =>
      cases d1
      cases d2
      refine ⟨k, rfl, by omega, by omega, q _ ((List.range k.toNat).map fun (j : Nat) => .int (j : Int)) Hd1 H1 ⟨by rw [List.length_map, List.length_range]; omega, fun r hr => ?_⟩ x1 e1 fun Hd' H' e1 e2 => ⟨by simp [Itr]; omega, fun i d hd => ?_⟩⟩
      · obtain ⟨j, _, rfl⟩ := List.mem_map.mp hr
        exact ⟨j, rfl⟩
      · rw [List.getElem?_map] at hd
        by_cases hi : i < k.toNat
        · rw [List.getElem?_range hi] at hd
          cases hd
          refine ⟨hi, fun x H'' ⟨eH, ex⟩ => ?_⟩
          subst eH ex
          refine ⟨Hd', .refl e2, ?_⟩
          rw [Int.zero_add]
          exact .int _
        · rw [List.getElem?_eq_none (by simpa using hi)] at hd
          cases hd
/-- a loop: Inv by the turn -/
theorem sb_for {wi : TI} {S : List PyData → Prop} {M : Nat} (Inv : Nat → List G → Prop) (hi : EIB K p wi Γ n S) (h0 : Inv 0 Γ)
    (hb : ∀ rs, S rs → rs.length ≤ M ∧ ∀ k r Θ, rs[k]? = some r → Inv k Θ → ∃ Δ vs, GDB K p g Θ r vs Δ ∧ SB K p t Δ m (Inv (k + 1)) Or) : SB K p (tFor wi g t) Γ (n + M * m) (fun Δ => ∃ rs, S rs ∧ Inv rs.length Δ) Or := fun Hd0 H0 c σ Hd H e hc D q1 q2 =>
  hi _ _ c σ Hd H e (by omega) _ fun J rs Hd1 H1 hS x1 e1 ok => by
    obtain ⟨hM, hb⟩ := hb rs hS
    have tot : ∀ k, k ≤ rs.length → c + n + k * m ≤ c + (n + M * m) := fun k hk => by
      have : k * m ≤ M * m := Nat.mul_le_mul_right _ (by omega)
      omega
    refine ⟨fun k j σ' H' => j = rs.length - k ∧ k ≤ rs.length ∧ ∃ Θ Hd', Inv k Θ ∧ Ex Hd1 Hd' ∧ EnB K p Hd0 H0 Θ (c + n + k * m) σ' Hd' H', ⟨rs.length, rfl, Nat.zero_le _, Γ, Hd1, h0, .refl _, by rw [Nat.zero_mul]; exact e1⟩, ?_⟩
    rintro k j σ' H' ⟨rfl, hk, Θ, Hd', inv, xd, en⟩
    obtain ⟨st, go⟩ := ok Hd' H' xd en.en.x.i
    by_cases hlt : k < rs.length
    · have hd : rs[k]? = some rs[k] := by simp [hlt]
      obtain ⟨gi, yl⟩ := go k _ hd
      have em : c + n + k * m + m = c + n + (k + 1) * m := by rw [Nat.succ_mul]; omega
      have t1 := tot (k + 1) hlt
      refine .inr ⟨gi, fun σ'' H'' => ∃ Θ Hd'', Inv (k + 1) Θ ∧ Ex Hd1 Hd'' ∧ EnB K p Hd0 H0 Θ (c + n + (k + 1) * m) σ'' Hd'' H'', fun σ'' H'' w => ⟨rs.length - (k + 1), by omega, rfl, hlt, w⟩, fun x H2 y2 => ?_⟩
      obtain ⟨Hd2, x2, d2⟩ := yl x H2 y2
      obtain ⟨Δ, vs, hg, hs⟩ := hb k _ Θ hd inv
      refine hg _ _ _ σ' Hd2 H2 x (en.ext x2) d2 _ fun σ2 e2 _ => hs _ _ _ σ2 Hd2 H2 e2 (by omega) _ (fun Θ' σ3 Hd3 H3 o3 e3 x3 => ⟨Θ', Hd3, o3, xd.trans (x2.d.trans x3), by rw [← em]; exact e3⟩) fun r v Hd3 H3 o3 x3 y3 ⟨b, hb, hb2⟩ dv => q2 r v Hd3 H3 o3 x3 y3 ⟨b, hb, hb2.mono (by omega)⟩ dv
    · have ek : k = rs.length := by omega
      subst ek
      have t1 := tot rs.length (Nat.le_refl _)
      exact .inl ⟨st, q1 Θ σ' Hd' H' ⟨rs, hS, inv⟩ (en.mono t1) (x1.d.trans xd)⟩
/-- a comprehension without a test -/
theorem eb_lc {wi : TI} {S : List PyData → Prop} {M : Nat} {Re : PyData → PyData → Prop} (hi : EIB K p wi Γ n S)
    (ht : ∀ rs, S rs → rs.length ≤ M ∧ ∀ r ∈ rs, ∃ Δ, GDB K p g (wipeG Γ vs) r vs Δ ∧ EB K p te Δ m (Re r)) (hM : M ≤ 100000) : EB K p (tLc wi g tYes te vs) Γ (n + M * m) (fun r => ∃ rs qs, r = .list qs ∧ S rs ∧ Paired Re rs qs) := fun Hd0 H0 c σ Hd H e hc Q q =>
  hi _ _ c σ Hd H e (by omega) _ fun J rs Hd1 H1 hS x1 e1 ok D hD => by
    obtain ⟨hMl, ht⟩ := ht rs hS
    have nD : H D = none := by
      cases z : H D with
      | none => rfl
      | some o =>
        by_cases zp : D = p
        · subst zp
          obtain ⟨o', ho', _⟩ := e1.b
          rw [hD] at ho'
          cases ho'
        · have := x1.h D o (by rw [hid_ne zp]; exact z)
          rw [hD] at this
          cases this
    have nDp : D ≠ p := fun z => by
      subst z
      obtain ⟨o', ho', _⟩ := e1.b
      rw [hD] at ho'
      cases ho'
    have nD1 : Hd1 D = none := Evl.fresh_back x1.i hD
    have tot : ∀ k, k ≤ rs.length → c + n + k * m ≤ c + (n + M * m) := fun k hk => by
      have : k * m ≤ M * m := Nat.mul_le_mul_right _ (by omega)
      omega
    have mutD : ∀ {k : Nat} {Hd2 G2 : Hp} {o : HO}, EnB K p Hd0 H0 Γ k σ Hd2 G2 → Ext Hd (hid p H) Hd2 G2 → Hd2 D = none → EnB K p Hd0 H0 Γ k σ Hd2 (upd G2 D o) ∧ Ext Hd (hid p H) Hd2 (upd G2 D o) := fun {k Hd2 G2 o} e2 x2 n2 => by
      have hid0 : hid p H D = none := by rw [hid_ne nDp]; exact nD
      have x3 := x2.mut (o := o) hid0 n2
      obtain ⟨bo, hbo, hbb⟩ := e2.b
      exact ⟨e.draw x3 e2.d ⟨bo, by rw [upd_ne nDp.symm]; exact hbo, hbb⟩, x3⟩
    obtain ⟨e10, x10⟩ := mutD (o := .lst []) e1 x1 nD1
    refine ⟨fun i j G => j = rs.length - i ∧ i ≤ rs.length ∧ ∃ Hd2 acc qs, Ex Hd1 Hd2 ∧ Ext Hd (hid p H) Hd2 G ∧ EnB K p Hd0 H0 Γ (c + n + i * m) σ Hd2 G ∧ Hd2 D = none ∧ G D = some (.lst acc) ∧ DtA K Hd2 acc qs ∧ Paired Re (rs.take i) qs,
      ⟨rs.length, rfl, Nat.zero_le _, Hd1, [], [], .refl _, x10, by rw [Nat.zero_mul]; exact e10, nD1, upd_same, .nil, by rw [List.take_zero]; exact .nil⟩, ?_⟩
    rintro i j G ⟨rfl, hle, Hd2, acc, qs, xd, x2, e2, n2, a2, t2, p2⟩
    obtain ⟨st, go⟩ := ok Hd2 G xd x2.i
    by_cases hlt : i < rs.length
    · have hd : rs[i]? = some rs[i] := by simp [hlt]
      obtain ⟨gi, yl⟩ := go i _ hd
      have em : c + n + i * m + m = c + n + (i + 1) * m := by rw [Nat.succ_mul]; omega
      have t1 := tot (i + 1) hlt
      refine .inr ⟨gi, fun G' => ∃ Hd2 acc qs, Ex Hd1 Hd2 ∧ Ext Hd (hid p H) Hd2 G' ∧ EnB K p Hd0 H0 Γ (c + n + (i + 1) * m) σ Hd2 G' ∧ Hd2 D = none ∧ G' D = some (.lst acc) ∧ DtA K Hd2 acc qs ∧ Paired Re (rs.take (i + 1)) qs, fun G' w => ⟨rs.length - (i + 1), by omega, rfl, hlt, w⟩, fun x H3 y3 => ?_⟩
      obtain ⟨Hd3, x3, d3⟩ := yl x H3 y3
      obtain ⟨Δ, hg, hte⟩ := ht _ (List.getElem_mem hlt)
      have n3 : Hd3 D = none := x3.f _ _ n2 a2
      have a3 := x3.h _ _ a2
      refine hg _ _ _ _ Hd3 H3 x ((e2.ext x3).wipe vs) d3 _ fun σ2 e3 w2 => ⟨w2.trans (wipe_wipe fun _ z => z), ?_⟩
      show te σ2 H3 _
      refine hte _ _ _ σ2 Hd3 H3 e3 (by omega) _ fun v r Hd4 H4 hr x4 e4 d4 => ?_
      have a4 : H4 D = some (.lst acc) := x4.h _ _ (by rw [hid_ne nDp]; exact a3)
      have n4 : Hd4 D = none := x4.f _ _ n3 (by rw [hid_ne nDp]; exact a3)
      have l4 : acc.length < sizeLine := by
        have l0 := t2.length
        have l1 := p2.length
        rw [List.length_take] at l1
        have l2 : acc.length < 100000 := by omega
        exact Nat.lt_of_lt_of_le l2 (by decide)
      have xT : Ext Hd (hid p H) Hd4 H4 := (x2.hid2 x3.hidE).hid2 x4
      have eT : EnB K p Hd0 H0 Γ (c + n + (i + 1) * m) σ Hd4 H4 := e.draw xT e4.d (by rw [← em]; exact e4.b)
      obtain ⟨eD, xD⟩ := mutD (o := .lst (acc ++ [v])) eT xT n4
      refine ⟨acc, a4, l4, Hd4, _, qs ++ [r], xd.trans (x3.d.trans x4.d), xD, eD, n4, upd_same, (t2.mono (x3.d.trans x4.d)).append (.cons d4 .nil), ?_⟩
      rw [List.take_add_one, hd]
      exact p2.snoc hr
    · have ei : i = rs.length := by omega
      subst ei
      rw [List.take_length] at p2
      have t1 := tot rs.length (Nat.le_refl _)
      refine .inl ⟨st, ?_⟩
      have hid0 : hid p H D = none := by rw [hid_ne nDp]; exact nD
      have xF := x2.take hid0 n2 a2
      have eF : EnB K p Hd0 H0 Γ (c + (n + M * m)) σ (upd Hd2 D (.lst acc)) G := (e.draw xF (by rw [upd_ne nDp.symm]; exact e2.d) e2.b).mono t1
      exact q (.ref D) (.list qs) _ G ⟨rs, qs, rfl, hS, p2⟩ xF eF (.lst upd_same (t2.mono (Ex.new n2)))
end
end DL

namespace DL
open PySem PySem.Spec PyProof.Rows L2
open Evl (Ex)
open RZ
/-! ### sorted(xs), xs a list of pairs of texts: a new list of the same pairs, in some order -/
def rSortedTS (K : PySem.W.Frag) : List V → Hp → VK → Prop := fun vs H Q => ∃ a xs, vs = [V.ref a] ∧ SqL K H a xs ∧ (∀ x ∈ xs, ∃ t i j, x = V.ref t ∧ H t = some (.tup [.str i, .str j])) ∧
  ∀ (zs : List V) (l : Addr), zs.Perm xs → H l = none → Q (.ref l) (upd H l (.lst zs))
theorem tups_of {h : Heap} {sh : Nat → Bool} : ∀ {vs : List Value}, (∀ v ∈ vs, ∃ f, PyProof.Rows.TupOf h sh v f) → ∃ kinds, PyProof.Rows.TupsOf h sh vs kinds
  | [], _ => ⟨[], .nil⟩
  | v :: vs, hv => by
    obtain ⟨f, hf⟩ := hv v List.mem_cons_self
    obtain ⟨kinds, hfs⟩ := tups_of fun u hu => hv u (List.mem_cons_of_mem _ hu)
    exact ⟨f :: kinds, .cons hf hfs⟩
theorem cr_sortedTS {X : Cx} (K : PySem.W.Frag) (hK : X.K = K := by rfl) : CallR X (.builtin "sorted") (rSortedTS K) := by
  subst hK
  intro pins s σ H vs us Q I r hq
  obtain ⟨a, xs, rfl, hs, allp, q⟩ := hq
  obtain ⟨raw, rel, isl, room⟩ := I.list hs
  obtain ⟨u, rfl, same⟩ := vals1 r
  have eu : u = Value.ref a := same
  subst eu
  obtain ⟨e1, e2⟩ := refs_back rel fun x m => by
    obtain ⟨t, _, _, e, _⟩ := allp x m
    exact ⟨t, e⟩
  have tk : ∀ v ∈ raw, ∃ t o x1 t1 x2 t2 n, v = Value.ref t ∧ s.heap.get? t = some o ∧ o.cls = .type "tuple" ∧ o.data = .seq #[.str x1 t1, .str x2 t2] n := fun v hv => by
    obtain ⟨t, rfl⟩ := e2 v hv
    have mem : V.ref t ∈ xs := by rw [e1]; exact List.mem_map.mpr ⟨_, hv, rfl⟩
    obtain ⟨t', i, j, e, ht⟩ := allp _ mem
    cases e
    obtain ⟨_, its2, r2, o, ho, hc, n, hd⟩ := I.hok _ _ ht
    obtain ⟨u1, u2, rfl, ri, rj⟩ := vals2 r2
    obtain ⟨t1, rfl⟩ := ri
    obtain ⟨t2, rfl⟩ := rj
    exact ⟨t, o, i, t1, j, t2, n, rfl, ho, hc, hd⟩
  obtain ⟨kinds, hfs⟩ := tups_of (h := s.heap) (sh := fun _ => true) (vs := raw) fun v hv => by
    obtain ⟨t, o, x1, t1, x2, t2, n, rfl, ho, hc, hd⟩ := tk v hv
    exact ⟨.str x1 t1, t, o, _, n, rfl, ho, hc, hd, rfl, fun z => (nomatch z), fun _ => ⟨x1, t1, rfl⟩⟩
  refine PyProof.Rows.G.sorted_tups (shape := fun _ => true) (fs := kinds) isl.isList hfs (fun v hv => ?_) (by rw [← rel.length]; exact room) fun st' hp _ _ => ?_
  · obtain ⟨t, o, x1, t1, x2, t2, n, rfl, ho, hc, hd⟩ := tk v hv
    obtain ⟨oc, od, dt, sl⟩ := o
    simp only at hc hd
    subst hc hd
    refine ⟨[Sum.inr x1.cps.toList, Sum.inr x2.cps.toList], ?_⟩
    unfold PyProof.Rows.G.tupKeyC
    rw [if_pos (by simp [PyProof.Rows.G.isTupObj, ho])]
    unfold PyProof.Rows.tupKey
    simp only [ho]
    rfl
  · have hperm : ((arrOf st').map (·.2)).toList.Perm raw := by
      have h1 : (arrOf st').toList.Perm (raw.zip raw) := by
        have := Array.perm_iff_toList_perm.mp hp
        rw [pairsOf_toList] at this
        exact this
      have h2 := h1.map (·.2)
      have h3 : (raw.zip raw).map (·.2) = raw := by
        rw [List.map_snd_zip (by omega)]
      rw [h3] at h2
      simpa using h2
    have h3 : ∀ u ∈ ((arrOf st').map (·.2)).toList, ∃ a, u = Value.ref a := fun u hu => e2 u (hperm.mem_iff.mp hu)
    obtain ⟨ep, he'⟩ := PyProof.Rows.sortedAll_at s.heap raw ((arrOf st').map (·.2))
    refine ⟨.ref (s.heap.objs.size + 1), upd H (s.heap.objs.size + 1) (.lst (((arrOf st').map (·.2)).toList.map backV)), I.laid (t' := s.toks) (fun _ _ => PyProof.Rows.sortedAll_old) (Nat.le_succ _) ⟨?_, ((arrOf st').map (·.2)).toList, ep, vals_back h3, by rw [Array.toArray_toList]; exact he'⟩, rfl, q _ _ ?_ (I.hok.fresh (Nat.le_succ _))⟩
    · rw [List.length_map, hperm.length_eq, ← rel.length]
      exact room
    · rw [e1]
      exact hperm.map backV
end DL

namespace DL
open PySem PySem.Spec PyProof.Rows L2
open Evl (Ex)
open RZ
/-! ### the same with lists for tuples -/
mutual
def softD : PyData → PyData
  | .list xs => .list (softA xs)
  | .tuple xs => .list (softA xs)
  | .none => .none
  | .bool b => .bool b
  | .int i => .int i
  | .str s => .str s
  | .dict kvs => .dict kvs
def softA : List PyData → List PyData
  | [] => []
  | x :: xs => softD x :: softA xs
end
theorem softA_map : ∀ xs : List PyData, softA xs = xs.map softD
  | [] => rfl
  | x :: xs => by
    show softD x :: softA xs = _
    rw [softA_map xs]
    rfl
def domLists (n : Nat) : List PyData → PyData → Prop := fun ds r => ∃ d, ds = [d] ∧ d.depth < n ∧ fine d = true ∧ r = softD d
/-! ### CHARTS as the law draws them -/
def pairM (p : Str × Str) : PyData := .tuple [.str p.1, .str p.2]
def stD (p : Str × PyData) : PyData := .tuple [.str p.1, p.2]
def webD (wide : List PyData) (nws : List (Str × PyData)) (ms : List (Str × Str)) : PyData := .tuple [.tuple wide, .tuple (nws.map stD), .tuple (ms.map pairM)]
structure WebOk (wide : List PyData) (nws : List (Str × PyData)) (ms : List (Str × Str)) : Prop where
  nd : (nws.map (·.1)).Nodup
  mem : ∀ p ∈ ms, p.1 ∈ nws.map (·.1) ∧ p.2 ∈ nws.map (·.1)
  nl : nws.length ≤ 1000
  n1 : 1 ≤ nws.length
  ml : ms.length ≤ 31
  ok : ∀ p ∈ nws, PyData.strOk p.1 = true
  fn : fine (webD wide nws ms) = true
  dp : (webD wide nws ms).depth ≤ 5
theorem paired_map {α β γ : Type} {F : β → γ → Prop} {f : α → β} {g : α → γ} (h : ∀ a, F (f a) (g a)) : ∀ l : List α, Paired F (l.map f) (l.map g)
  | [] => .nil
  | a :: l => .cons (h a) (paired_map h l)
theorem WebOk.chart {wide : List PyData} {nws : List (Str × PyData)} {ms : List (Str × Str)} (h : WebOk wide nws ms) : ChartIs (webD wide nws ms) (nws.map (·.1)) ms := by
  refine ⟨⟨_, _, _, _, _, rfl, rfl, rfl, paired_map (fun p => ⟨p.2, rfl⟩) nws, ?_⟩, h.nd, h.mem, by rw [List.length_map]; exact h.nl, h.ml⟩
  have := paired_map (F := fun e (p : Str × Str) => seqOf e = some [.str p.1, .str p.2]) (f := pairM) (g := fun p => p) (fun p => rfl) ms
  rw [List.map_id'] at this
  exact this
theorem soft_web (wide : List PyData) (nws : List (Str × PyData)) (ms : List (Str × Str)) :
    softD (webD wide nws ms) = .list [.list (wide.map softD), .list (nws.map fun p => .list [.str p.1, softD p.2]), .list (ms.map fun p => .list [.str p.1, .str p.2])] := by
  show PyData.list [.list (softA wide), .list (softA (nws.map stD)), .list (softA (ms.map pairM))] = _
  rw [softA_map, softA_map, softA_map, List.map_map, List.map_map]
  rfl
theorem WebOk.soft {wide : List PyData} {nws : List (Str × PyData)} {ms : List (Str × Str)} (h : WebOk wide nws ms) : ChartIs (softD (webD wide nws ms)) (nws.map (·.1)) ms := by
  rw [soft_web]
  refine ⟨⟨_, _, _, _, _, rfl, rfl, rfl, paired_map (fun p => ⟨softD p.2, rfl⟩) nws, ?_⟩, h.nd, h.mem, by rw [List.length_map]; exact h.nl, h.ml⟩
  have := paired_map (F := fun e (p : Str × Str) => seqOf e = some [.str p.1, .str p.2]) (f := fun p => .list [.str p.1, .str p.2]) (g := fun p => p) (fun p => rfl) ms
  rw [List.map_id'] at this
  exact this
/-! ### the law's own neighbours, its own look at walks -/
def nearW (ms : List (Str × Str)) (t : Str) : List Str := (ms.filter fun p => decide (p.1 = t)).map (·.2) ++ (ms.filter fun p => decide (p.2 = t)).map (·.1)
theorem nearW_mem {ms : List (Str × Str)} {n x : Str} : x ∈ nearW ms n ↔ (n, x) ∈ ms ∨ (x, n) ∈ ms := by
  unfold nearW
  rw [List.mem_append, List.mem_map, List.mem_map]
  constructor
  · rintro (⟨⟨a, b⟩, h, rfl⟩ | ⟨⟨a, b⟩, h, rfl⟩)
    · obtain ⟨h1, h2⟩ := List.mem_filter.mp h
      have := of_decide_eq_true h2
      simp only at this
      subst this
      exact .inl h1
    · obtain ⟨h1, h2⟩ := List.mem_filter.mp h
      have := of_decide_eq_true h2
      simp only at this
      subst this
      exact .inr h1
  · rintro (h | h)
    · exact .inl ⟨_, List.mem_filter.mpr ⟨h, decide_eq_true rfl⟩, rfl⟩
    · exact .inr ⟨_, List.mem_filter.mpr ⟨h, decide_eq_true rfl⟩, rfl⟩
theorem nearW_len (ms : List (Str × Str)) (t : Str) : (nearW ms t).length ≤ 2 * ms.length := by
  unfold nearW
  rw [List.length_append, List.length_map, List.length_map]
  have := List.length_filter_le (fun p : Str × Str => decide (p.1 = t)) ms
  have := List.length_filter_le (fun p : Str × Str => decide (p.2 = t)) ms
  omega
def domNearW : List PyData → PyData → Prop := fun ds r => ∃ wide nws ms t, ds = [webD wide nws ms, .str t] ∧ WebOk wide nws ms ∧ PyData.strOk t = true ∧ r = .list ((sortS (nearW ms t)).map PyData.str)
def domTags : List PyData → PyData → Prop := fun ds r => ∃ wide nws ms, ds = [webD wide nws ms] ∧ WebOk wide nws ms ∧ r = .list ((nws.map (·.1)).map PyData.str)
def domPath : List PyData → PyData → Prop := fun ds r => ∃ wide nws ms th, ds = [webD wide nws ms, th] ∧ WebOk wide nws ms ∧ fine th = true ∧ r = .bool (isWalkB (nws.map (·.1)) ms th)
def fstIs (t : Str) : PyData → Bool
  | .tuple [.str a, _] => decide (a = t)
  | _ => false
def sndIs (t : Str) : PyData → Bool
  | .tuple [_, .str b] => decide (b = t)
  | _ => false
def fstD : PyData → PyData
  | .tuple [x, _] => x
  | _ => .none
def sndD : PyData → PyData
  | .tuple [_, y] => y
  | _ => .none
theorem found_eq (ms : List (Str × Str)) (t : Str) : ((ms.map pairM).filter (fstIs t)).map sndD = ((ms.filter fun p => decide (p.1 = t)).map (·.2)).map PyData.str := by
  rw [List.filter_map, List.map_map, List.map_map]
  rfl
theorem found_eq2 (ms : List (Str × Str)) (t : Str) : ((ms.map pairM).filter (sndIs t)).map fstD = ((ms.filter fun p => decide (p.2 = t)).map (·.1)).map PyData.str := by
  rw [List.filter_map, List.map_map, List.map_map]
  rfl
theorem WebOk.str {wide : List PyData} {nws : List (Str × PyData)} {ms : List (Str × Str)} (h : WebOk wide nws ms) {s : Str} (hs : s ∈ nws.map (·.1)) : PyData.strOk s = true := by
  obtain ⟨p, hp, rfl⟩ := List.mem_map.mp hs
  exact h.ok p hp
section
variable {K : PySem.W.Frag} {Γ : List G} {te : TE} {xs : List PyData}
theorem fine_str {s : Str} (h : PyData.strOk s = true) : SeqAt.shaped (.str s) = true := by
  unfold SeqAt.shaped
  simp [PyData.canLay0, PyData.depth, h]
theorem rd_eqS {a b : Str} (h1 : PyData.strOk a = true) (h2 : PyData.strOk b = true) : RD K (rEqD K) (.str a) (.str b) (.bool (decide (a = b))) := by
  have h := rd_eqD (K := K) (x := .str a) (y := .str b) (fine_str h1) (fine_str h2)
  have e : PyData.eqv (.str a) (.str b) = decide (a = b) := by simp only [PyData.eqv]; rfl
  rw [e] at h
  exact h
theorem canLay_all : ∀ {xs : List PyData}, (∀ x ∈ xs, fine x = true ∧ x.depth ≤ 63) → PyData.canLayAll0 xs = true ∧ PyData.depthAll xs ≤ 63 ∧ shortA xs = true
  | [], _ => ⟨rfl, by simp [PyData.depthAll], rfl⟩
  | x :: xs, h => by
    obtain ⟨a, b, c⟩ := canLay_all fun y hy => h y (List.mem_cons_of_mem _ hy)
    obtain ⟨f, d⟩ := h x List.mem_cons_self
    obtain ⟨f1, f2⟩ := Bool.and_eq_true_iff.mp f
    refine ⟨?_, ?_, ?_⟩
    · simp only [PyData.canLayAll0, Bool.and_eq_true]
      exact ⟨SeqAt.canLay_of_shaped f1, a⟩
    · simp only [PyData.depthAll]; omega
    · simp only [shortA, Bool.and_eq_true]
      exact ⟨f2, c⟩
theorem fine_mk_list {xs : List PyData} (hl : xs.length ≤ 100000) (h : ∀ x ∈ xs, fine x = true ∧ x.depth ≤ 63) : fine (.list xs) = true := by
  obtain ⟨a, b, c⟩ := canLay_all h
  unfold fine SeqAt.shaped
  simp only [PyData.canLay0, PyData.depth, shortD, Bool.and_eq_true, decide_eq_true_eq]
  exact ⟨⟨a, decide_eq_true (by omega)⟩, hl, c⟩
theorem fine_mk_tup {xs : List PyData} (hl : xs.length ≤ 100000) (h : ∀ x ∈ xs, fine x = true ∧ x.depth ≤ 63) : fine (.tuple xs) = true := by
  obtain ⟨a, b, c⟩ := canLay_all h
  unfold fine SeqAt.shaped
  simp only [PyData.canLay0, PyData.depth, shortD, Bool.and_eq_true, decide_eq_true_eq]
  exact ⟨⟨a, decide_eq_true (by omega)⟩, hl, c⟩
theorem depth_list {xs : List PyData} {n : Nat} (h : ∀ x ∈ xs, x.depth ≤ n) : (PyData.list xs).depth ≤ n + 1 := by
  have : PyData.depthAll xs ≤ n := by
    induction xs with
    | nil => simp [PyData.depthAll]
    | cons x r ih =>
      simp only [PyData.depthAll]
      have := h x List.mem_cons_self
      have := ih fun y hy => h y (List.mem_cons_of_mem _ hy)
      omega
  simp only [PyData.depth]
  omega
theorem depth_tup {xs : List PyData} {n : Nat} (h : ∀ x ∈ xs, x.depth ≤ n) : (PyData.tuple xs).depth ≤ n + 1 := by
  have := depth_list h
  simp only [PyData.depth] at this ⊢
  exact this
theorem fine_depth {d : PyData} (h : fine d = true) : d.depth ≤ 64 := SeqAt.depth_of_shaped (fine_shaped h)
theorem fine_atom_str {s : Str} (h : PyData.strOk s = true) : fine (.str s) = true := by
  unfold fine
  rw [fine_str h]
  rfl
/-- x == [], x != [] of a list -/
theorem rd_eqNil (h : SeqAt.shaped (.list xs) = true) : RD K (rEqD K) (.list xs) (.list []) (.bool xs.isEmpty) := by
  have q := rd_eqD (K := K) (x := .list xs) (y := .list []) h rfl
  have e : PyData.eqv (.list xs) (.list []) = xs.isEmpty := by cases xs <;> simp [PyData.eqv, PyData.eqvAll]
  rw [e] at q
  exact q
theorem rd_neNil (h : SeqAt.shaped (.list xs) = true) : RD K (rNeD K) (.list xs) (.list []) (.bool (!xs.isEmpty)) := by
  have q := rd_neD (K := K) (x := .list xs) (y := .list []) h rfl
  have e : PyData.eqv (.list xs) (.list []) = xs.isEmpty := by cases xs <;> simp [PyData.eqv, PyData.eqvAll]
  rw [e] at q
  exact q
end
theorem filter_empty {α : Type} {p : α → Bool} {xs : List α} : (xs.filter p).isEmpty = !xs.any p := by
  induction xs with
  | nil => rfl
  | cons x r ih =>
    rw [List.filter_cons, List.any_cons]
    by_cases h : p x = true
    · rw [if_pos h, h]; rfl
    · rw [if_neg h, ih]
      simp [h]
/-- the range form of a walk's steps -/
def badK (ms : List (Str × Str)) (xs : List PyData) : PyData → Bool
  | .int k => match xs[k.toNat]?, xs[k.toNat + 1]? with
    | some a, some b => !stepOk ms a b
    | _, _ => false
  | _ => false
theorem range_zip (ms : List (Str × Str)) (xs : List PyData) : ((List.range (xs.length - 1)).map fun (k : Nat) => PyData.int (k : Int)).any (badK ms xs) = !((xs.zip (xs.drop 1)).all fun p => stepOk ms p.1 p.2) := by
  rw [List.any_eq_not_all_not]
  congr 1
  rw [Bool.eq_iff_iff, List.all_eq_true, List.all_eq_true]
  constructor
  · rintro h ⟨a, b⟩ hm
    obtain ⟨k, hk⟩ := List.getElem?_of_mem hm
    rw [List.getElem?_zip_eq_some] at hk
    obtain ⟨h1, h2⟩ := hk
    simp only at h1 h2
    rw [List.getElem?_drop] at h2
    have hl := (List.getElem?_eq_some_iff.mp h2).1
    have := h (.int (k : Int)) (List.mem_map.mpr ⟨k, List.mem_range.mpr (by omega), rfl⟩)
    have e : k + 1 = 1 + k := by omega
    simp only [badK, Int.toNat_natCast, e, h1, h2, Bool.not_not] at this
    exact this
  · rintro h x hx
    obtain ⟨k, hk, rfl⟩ := List.mem_map.mp hx
    have hk' := List.mem_range.mp hk
    have g1 : xs[k]? = some xs[k] := by simp
    have g2 : xs[k + 1]? = some xs[k + 1] := by simp
    have := h (xs[k], xs[k + 1]) (List.mem_iff_getElem?.mpr ⟨k, by rw [List.getElem?_zip_eq_some]; exact ⟨g1, by rw [List.getElem?_drop, Nat.add_comm]; exact g2⟩⟩)
    simp only [badK, Int.toNat_natCast, g1, g2, Bool.not_not]
    exact this
end DL

namespace DL
open PySem PySem.Spec PyProof.Rows L2
open Evl (Ex)
open RZ
theorem DtA.erase {K : PySem.W.Frag} {H : Hp} {vs : List V} {ds : List PyData} (h : DtA K H vs ds) (k : Nat) : DtA K H (vs.eraseIdx k) (ds.eraseIdx k) := by
  rw [List.eraseIdx_eq_take_drop_succ, List.eraseIdx_eq_take_drop_succ]
  exact (h.take k).append (h.drop (k + 1))
theorem lookup_in {env : Env} {y : Str} : ∀ {names : List (Str × NameKind)}, names.lookup y = some .cell ∨ names.lookup y = some .free →
    (names.map fun (n, k) => if (k == NameKind.free && env.scope.kind == .function && env.kindOf n == some .cell) then (n, NameKind.cell) else (n, k)).lookup y = some .cell ∨ (names.map fun (n, k) => if (k == NameKind.free && env.scope.kind == .function && env.kindOf n == some .cell) then (n, NameKind.cell) else (n, k)).lookup y = some .free
  | [], h => by rcases h with h | h <;> cases h
  | (n, k) :: r, h => by
    have ih := @lookup_in env y r
    rw [List.map_cons]
    cases hx : y == n with
    | true =>
      simp only [List.lookup_cons, hx] at h
      by_cases c : (k == NameKind.free && env.scope.kind == .function && env.kindOf n == some .cell) = true
      · simp only [c, if_true, List.lookup_cons, hx]
        exact .inl trivial
      · simp only [c, List.lookup_cons, hx]
        simpa [List.lookup_cons, hx] using h
    | false =>
      simp only [List.lookup_cons, hx] at h
      by_cases c : (k == NameKind.free && env.scope.kind == .function && env.kindOf n == some .cell) = true
      · simp only [c, if_true, List.lookup_cons, hx]
        exact ih h
      · simp only [c, List.lookup_cons, hx]
        simpa [List.lookup_cons, hx] using ih h
/-- a comprehension in a comprehension -/
theorem blkOk_in {N : List Str} {sc scope : Scope} {cl : List (Str × Addr)} {C : Addr} {env : Env} {own : List (Str × Nat)} (h : blkC N sc scope own = true) : BlkOk N (compEnvC sc cl C env).scope scope own :=
  let b := blkOk_by h
  ⟨b.kind, b.uniq, b.ix, fun y hy e => lookup_in (b.free y hy e), b.own⟩
/-! ### a def that draws: its source first, then data; before: what is asked of the data; after: data and answer -/
def spB (K : PySem.W.Frag) (ar m : Nat) (pre : List PyData → Prop) (dom : List PyData → PyData → Prop) : Sp := fun vs H Q _ => vs.length = ar + 1 ∧ ∃ p c Hd ds o ws, vs = .ref p :: ws ∧ Ex Hd H ∧ Hd p = none ∧ H p = some o ∧ BoxO c o ∧ c + m < 2 ^ 60 ∧ DtA K Hd ws ds ∧ pre ds ∧
  ∀ v r Hd' H', dom ds r → Ext Hd (hid p H) Hd' H' → Hd' p = none → (∃ o, H' p = some o ∧ BoxO (c + m) o) → Dt K Hd' v r → Q v H'
def startB (N : List Str) (p : Addr) (ds : List PyData) : List G := .val (.ref p) :: (ds.map G.dat ++ List.replicate (N.length - 1 - ds.length) .any)
section
variable {K : PySem.W.Frag} {p : Addr} {Γ Δ : List G} {n m l : Nat} {ta tb te : TE} {tt : TT} {d x y : PyData} {ds : List PyData} {R R1 R2 : PyData → Prop} {g : TG} {vs : List Nat} {t u : TS} {On On1 : List G → Prop} {Or : PyData → Prop} {b : Bool}
theorem eb_callB {E : XK} {tr : TA} {i ar : Nat} {S : List PyData → Prop} {pre : List PyData → Prop} {dom : List PyData → PyData → Prop} (hi : Γ[i]? = some (.val (.ref p))) (h : EAB K p tr Γ n S) (hs : ∀ xs, S xs → xs.length = ar ∧ pre xs) :
    EB K p (tCall (spB K ar m pre dom) [] E (tCons (tVar i) tr)) Γ (n + m) (fun r => ∃ xs, S xs ∧ dom xs r) := fun _ _ c σ Hd H e hc Q q =>
  ⟨_, e.en.g i _ hi, h _ _ c σ Hd H e (by omega) _ fun ws xs Hd1 H1 hx x1 e1 d1 => by
    obtain ⟨hl, hp⟩ := hs xs hx
    obtain ⟨o, ho, hb⟩ := e1.b
    refine ⟨by rw [List.append_nil, List.length_cons, d1.length, hl], p, c + n, Hd1, xs, o, ws, List.append_nil _, e1.en.x.i, e1.d, ho, hb, by omega, d1, hp, fun v r Hd' H' hr x2 k2 b2 dv => ?_⟩
    exact q v r Hd' H' ⟨xs, hx, hr⟩ (x1.hid2 x2) (by have := e1.draw x2 k2 b2; rw [Nat.add_assoc] at this; exact this) dv⟩
theorem startB_en {N : List Str} {ws : List V} {c : Nat} {o : HO} {Hd H : Hp} (e : Ex Hd H) (hd : Hd p = none) (ho : H p = some o) (hb : BoxO c o) (h : DtA K Hd ws ds) (hN : 1 ≤ N.length) : EnB K p Hd (hid p H) (startB N p ds) c (L2.start N (.ref p :: ws)) Hd H := by
  have hl := h.length
  have hx : Ext Hd (hid p H) Hd H := ⟨.refl _, hid_ex, e, fun _ _ z _ => z⟩
  have notown : ∀ (i : Nat) (fs : List PyData), (startB N p ds)[i]? ≠ some (G.own fs) := fun i fs h1 => by
    unfold startB at h1
    cases i with
    | zero => cases h1
    | succ i =>
      rw [List.getElem?_cons_succ] at h1
      by_cases hi : i < ds.length
      · rw [List.getElem?_append_left (by simpa using hi), List.getElem?_map, List.getElem?_eq_getElem hi] at h1
        cases h1
      · rw [List.getElem?_append_right (by simpa using hi), List.getElem?_replicate] at h1
        split at h1
        · cases h1
        · cases h1
  refine ⟨⟨hx, ?_, fun i g hg => ?_, fun i j fs es w _ h1 _ _ _ => notown i fs h1⟩, hd, hid_same, ⟨o, ho, hb⟩, fun i fs h1 => absurd h1 (notown i fs)⟩
  · simp [startB, L2.start, hl]; omega
  · unfold startB at hg
    cases i with
    | zero =>
      cases hg
      rfl
    | succ i =>
      rw [List.getElem?_cons_succ] at hg
      by_cases hi : i < ds.length
      · rw [List.getElem?_append_left (by simpa using hi), List.getElem?_map, List.getElem?_eq_getElem hi] at hg
        cases hg
        obtain ⟨v, g1, g2⟩ := h.got (List.getElem?_eq_getElem hi)
        refine ⟨v, ?_, g2⟩
        unfold L2.start
        rw [List.getElem?_append_left (by simp; omega), List.getElem?_map, List.getElem?_cons_succ, g1]
        rfl
      · rw [List.getElem?_append_right (by simpa using hi), List.getElem?_replicate] at hg
        split at hg
        · cases hg; trivial
        · cases hg
theorem run_b {N : List Str} {ws : List V} {c : Nat} {o : HO} {Hd H : Hp} {Q : VK} {dom : List PyData → PyData → Prop} (e : Ex Hd H) (hd : Hd p = none) (ho : H p = some o) (hb : BoxO c o) (hc : c + m < 2 ^ 60) (h : DtA K Hd ws ds) (hN : 1 ≤ N.length)
    (hs : SB K p t (startB N p ds) m (fun _ => False) (dom ds)) (q : ∀ v r Hd' H', dom ds r → Ext Hd (hid p H) Hd' H' → Hd' p = none → (∃ o, H' p = some o ∧ BoxO (c + m) o) → Dt K Hd' v r → Q v H') :
    t { nx := fun _ H' => Q .non H', rt := Q } (L2.start N (.ref p :: ws)) H :=
  hs _ _ _ _ _ _ (startB_en e hd ho hb h hN) hc _ (fun _ _ _ _ z => z.elim) fun r v Hd' H' hr x y b dv => q v r Hd' H' hr x y b dv
/-- a, b = two new lists -/
theorem sb_par {i j : Nat} {xs ys : List PyData} (h1 : EF K ta Γ xs) (h2 : EF K tb Γ ys) : SB K p (tPar i j (tCons ta (tCons tb tNil))) Γ 0 (fun Δ => Δ = (Γ.set i (.own xs)).set j (.own ys)) Or := fun _ _ c σ Hd H e hc D q1 _ =>
  h1 _ _ σ Hd H e.en _ fun a ws Hd1 H1 x1 n1 k1 g1 d1 => h2 _ _ σ Hd1 H1 (e.en.ext x1) _ fun b us Hd2 H2 x2 n2 k2 g2 d2 => by
    have e2 := (e.ext x1).ext x2
    obtain ⟨o, ho, _⟩ := e.b
    have hap : a ≠ p := fun z => by subst z; rw [n1] at ho; cases ho
    have hbp : b ≠ p := fun z => by subst z; rw [x1.h _ _ ho] at n2; cases n2
    have hab : a ≠ b := fun z => by subst z; rw [g1] at n2; cases n2
    have newa : ∀ (j : Nat) (es : List PyData), Γ[j]? = some (G.own es) → σ[j]? ≠ some (some (V.ref a)) := fun j es hj hs => by
      obtain ⟨b, vs, g1, _, _, g4, _⟩ := e.en.own hj
      rw [hs] at g1
      cases g1
      rw [n1] at g4
      cases g4
    have newb : ∀ (j : Nat) (es : List PyData), Γ[j]? = some (G.own es) → σ[j]? ≠ some (some (V.ref b)) := fun j es hj hs => by
      obtain ⟨b, vs, g1, _, _, g4, _⟩ := e.en.own hj
      rw [hs] at g1
      cases g1
      rw [x1.h _ _ g4] at n2
      cases n2
    have ea := e2.setOwn (i := i) (Evl.fresh_back e.en.x.h n1) (x2.f _ _ k1 g1) (x2.h _ _ g1) (d1.mono x2.d) hap newa
    have eb := ea.setOwn (i := j) (Evl.fresh_back e.en.x.h (Evl.fresh_back x1.h n2)) k2 g2 d2 hbp fun l es hl hs => by
      by_cases z : i = l
      · subst z
        have hil : i < σ.length := by
          have := (List.getElem?_eq_some_iff.mp hl).1
          rw [← e2.en.l]
          simpa using this
        rw [List.getElem?_set_self hil] at hs
        exact hab (V.ref.inj (Option.some.inj (Option.some.inj hs)))
      · rw [List.getElem?_set_ne z] at hl hs
        exact newb l es hl hs
    exact ⟨_, _, rfl, q1 _ _ Hd2 H2 rfl eb (x1.d.trans x2.d)⟩
/-- found.append(rest.pop(take(tin, len(rest)))) -/
theorem sb_popapp {i j z : Nat} {rs fs : List PyData} (hij : i ≠ j) (hi : Γ[i]? = some (.own rs)) (hj : Γ[j]? = some (.own fs)) (h0 : Γ[z]? = some (.val (.ref p))) (hn : 1 ≤ rs.length) (hl : rs.length < 1000000) (hf : fs.length < 100000) :
    SB K p (tDrop (tBM K "list" rAppend (tVar j) (tCons (tBM K "list" rPopAt (tVar i) (tCons (tCall spTake [] E0 (tCons (tVar z) (tCons (tCB (rLenOf K) (tCons (tVar i) tNil)) tNil))) tNil)) tNil))) Γ 1 (fun Δ => ∃ k x, rs[k]? = some x ∧ Δ = (Γ.set i (.own (rs.eraseIdx k))).set j (.own (fs ++ [x]))) Or := fun _ _ c σ Hd H e hc D q1 _ => by
  obtain ⟨a, ws, s1, n0, n1, h1, d1⟩ := e.en.own hi
  obtain ⟨b, us, t1, m0, m1, g1, f1⟩ := e.en.own hj
  refine ⟨_, t1, tyV_list g1, ?_⟩
  refine ⟨_, s1, tyV_list h1, ?_⟩
  refine eb_take h0 (ed_lenR (er_own hi)) (by omega) (by omega) _ _ c σ Hd H e hc _ fun v r Hd1 H1 hr x1 e1 dv => ?_
  obtain ⟨k, rfl, k0, k1⟩ := hr
  cases dv
  obtain ⟨a', ws', s1', n0', n1', h1', d1'⟩ := e1.en.own hi
  rw [s1] at s1'
  cases s1'
  have hl' := d1'.length
  obtain ⟨k, rfl⟩ : ∃ q : Nat, k = (q : Int) := ⟨k.toNat, by omega⟩
  obtain ⟨y, hy⟩ : ∃ y, ws'[k]? = some y := ⟨_, List.getElem?_eq_getElem (by omega)⟩
  obtain ⟨q, hm1, hm2, hm3, _, _⟩ := atI_get (atI_nat hy)
  obtain ⟨x, hx, dx⟩ := d1'.get hm2
  have e2 := e1.change hi s1 (d1'.erase q)
  obtain ⟨b', us', t1', _, _, g1', f1'⟩ := e2.en.own (i := j) (by rw [List.getElem?_set_ne hij]; exact hj)
  rw [t1] at t1'
  cases t1'
  refine ⟨a, ws', _, q, y, rfl, rfl, h1', by omega, by omega, hm1, hm2, ?_⟩
  exact ⟨b, us', y, rfl, rfl, g1', Nat.lt_of_lt_of_le (by rw [f1'.length]; exact hf) (by decide : 100000 ≤ sizeLine), q1 _ σ Hd1 _ ⟨q, x, hx, rfl⟩ (e2.change (by rw [List.getElem?_set_ne hij]; exact hj) t1 (f1'.append (.cons dx .nil))) x1.d⟩
/-! ### pure statements among those that draw -/
def noOwn : G → Bool
  | .own _ => false
  | .ownD _ => false
  | _ => true
theorem sd_b (h : SD K t Γ (.nx Δ)) (h1 : Γ.all noOwn = true) (h2 : Δ.all noOwn = true) : SB K p t Γ 0 (fun Θ => Θ = Δ) Or := fun Hd0 H0 c σ Hd H e hc D q1 _ => by
  have no : ∀ {Θ : List G}, Θ.all noOwn = true → ∀ (i : Nat) (fs : List PyData), Θ[i]? ≠ some (G.own fs) := fun h i fs z => by
    have := List.all_eq_true.mp h _ (List.mem_of_getElem? z)
    cases this
  have e' : En K Hd H Γ σ Hd H := ⟨.refl e.en.x.i, e.en.l, fun i g hg => by
    have q := e.en.g i g hg
    cases g with
    | any => trivial
    | val v => exact q
    | dat d => exact q
    | own fs => exact absurd hg (no h1 i fs)
    | ownD fs => exact (nomatch (List.all_eq_true.mp h1 _ (List.mem_of_getElem? hg))), fun i j fs es w _ k _ _ _ => no h1 i fs k⟩
  refine h Hd H σ Hd H e' D fun σ' Hd' H' f xd => ?_
  obtain ⟨o, ho, hb⟩ := e.b
  refine q1 Δ σ' Hd' H' rfl ⟨⟨e.en.x.trans f.x, f.l, fun i g hg => ?_, fun i j fs es w _ k _ _ _ => no h2 i fs k⟩, f.x.f _ _ e.d ho, e.z, ⟨o, f.x.h _ _ ho, hb⟩, fun i fs k => absurd k (no h2 i fs)⟩ f.x.d
  have q := f.g i g hg
  cases g with
  | any => trivial
  | val v => exact q
  | dat d => exact q
  | own fs => exact absurd hg (no h2 i fs)
  | ownD fs => exact nomatch (List.all_eq_true.mp h2 _ (List.mem_of_getElem? hg))
/-- xs[:k], k drawn -/
theorem eb_slTo (h : ED K ta Γ (.list ds)) (hb : EB K p tb Γ n R) (hR : ∀ r, R r → ∃ k : Int, r = .int k) : EB K p (tSl (rSlL K) ta tNoPart (tPart tb)) Γ n (fun r => ∃ k : Int, r = .list (cutD ds none (some k)) ∧ R (.int k)) := fun _ _ c σ Hd H e hc Q q =>
  h _ _ σ Hd H e.en _ fun v Hd1 H1 x1 d1 => hb _ _ c σ Hd1 H1 (e.ext x1) hc _ fun w r Hd2 H2 hr x2 e2 d2 => by
    obtain ⟨k, rfl⟩ := hR r hr
    cases d2
    cases d1 with
    | lst g1 g2 =>
      refine ⟨k, rfl, _, _, rfl, SqL.of (x2.i _ _ (x2.d _ _ g1)), fun a ha => ?_⟩
      have y : ∀ o, Ext Hd2 H2 (upd Hd2 a o) (upd H2 a o) := fun o => (Ext.refl e2.en.x.i).new ha
      exact q _ _ _ _ ⟨k, rfl, hr⟩ ((x1.hidE.hid2 x2).hid2 (y _).hidE) (e2.ext (y _)) (.lst upd_same ((cut_dt (g2.mono x2.d)).mono (Ex.new (Evl.fresh_back x2.i ha))))
theorem cd_tupL : CD K (rTupOf K) [.list ds] (.tuple ds) := fun Hd H vs ex hv Q q => by
  cases hv with
  | cons g hv =>
    cases hv
    cases g with
    | @lst a ws _ g1 g2 => exact ⟨a, ws, rfl, .inl ⟨SqL.of (ex _ _ g1), fun l hl => q _ (upd Hd l (.tup ws)) _ ((Ext.refl ex).new hl) (.tup upd_same (g2.mono (Ex.new (Evl.fresh_back ex hl))))⟩⟩
theorem cutD_take (ds : List PyData) (k : Int) (h : 0 ≤ k) : cutD ds none (some k) = ds.take k.toNat := by
  obtain ⟨m, rfl⟩ : ∃ m : Nat, k = (m : Int) := ⟨k.toNat, by omega⟩
  unfold cutD
  rw [HT.sIx_none, HT.sIx_nat, List.drop_zero, Nat.sub_zero, Int.toNat_natCast]
  by_cases h : m ≤ ds.length
  · rw [Nat.min_eq_left h]
  · rw [Nat.min_eq_right (by omega), List.take_length, List.take_of_length_le (by omega)]
theorem cutD_drop (ds : List PyData) (m : Nat) : cutD ds (some (m : Int)) none = ds.drop m := by
  unfold cutD
  rw [HT.sIx_none, HT.sIx_nat]
  by_cases h2 : m ≤ ds.length
  · rw [Nat.min_eq_left h2, List.take_of_length_le (by rw [List.length_drop]; omega)]
  · rw [Nat.min_eq_right (by omega), List.drop_length, List.drop_of_length_le (by omega), List.take_nil]
theorem dta_perm {H : Hp} {ys xs : List V} (h : ys.Perm xs) : ∀ {ds : List PyData}, DtA K H xs ds → ∃ es, es.Perm ds ∧ DtA K H ys es := by
  induction h with
  | nil => exact fun h => ⟨_, .refl _, h⟩
  | cons v _ ih =>
    intro ds h
    cases h with
    | cons h1 h2 =>
      obtain ⟨es, p1, p2⟩ := ih h2
      exact ⟨_, p1.cons _, .cons h1 p2⟩
  | swap a b l =>
    intro ds h
    cases h with
    | cons h1 h2 => cases h2 with
      | cons h2 h3 => exact ⟨_, .swap _ _ _, .cons h2 (.cons h1 h3)⟩
  | trans _ _ ih1 ih2 =>
    intro ds h
    obtain ⟨es, p1, p2⟩ := ih2 h
    obtain ⟨fs, p3, p4⟩ := ih1 p2
    exact ⟨fs, p3.trans p1, p4⟩
theorem eb_sortedTS (h : ED K te Γ (.list ds)) (hp : ∀ d ∈ ds, ∃ q, d = pairM q) : EB K p (tCB (rSortedTS K) (tCons te tNil)) Γ 0 (fun r => ∃ es, r = .list es ∧ es.Perm ds) := fun _ _ c σ Hd H e hc Q q =>
  h _ _ σ Hd H e.en _ fun v Hd1 H1 x1 d1 => by
    cases d1 with
    | @lst a ws _ g1 g2 =>
      refine ⟨a, ws, rfl, SqL.of (x1.i _ _ g1), fun x hx => ?_, fun ys l hy hl => ?_⟩
      · obtain ⟨k, hk⟩ := List.getElem?_of_mem hx
        obtain ⟨d, hd, dx⟩ := g2.get hk
        obtain ⟨⟨i, j⟩, rfl⟩ := hp d (List.mem_of_getElem? hd)
        cases dx with
        | @tup t _ tvs k1 k2 =>
          have := DtA.ofStrs (xs := [i, j]) k2
          subst this
          exact ⟨t, i, j, rfl, x1.i _ _ k1⟩
      · obtain ⟨es, p1, p2⟩ := dta_perm hy g2
        have e1 := e.ext x1
        have y : ∀ o, Ext Hd1 H1 (upd Hd1 l o) (upd H1 l o) := fun o => (Ext.refl x1.i).new hl
        exact q _ _ _ _ ⟨es, rfl, p1⟩ (x1.hidE.hid2 (y _).hidE) (e1.ext (y _)) (.lst upd_same (p2.mono (Ex.new (Evl.fresh_back x1.i hl))))
theorem pairs_of {qs : List (Str × Str)} : ∀ {ys : List PyData}, (∀ y ∈ ys, ∃ q ∈ qs, y = pairM q) → ∃ ms : List (Str × Str), ys = ms.map pairM ∧ ∀ m ∈ ms, m ∈ qs
  | [], _ => ⟨[], rfl, fun _ z => nomatch z⟩
  | y :: ys, h => by
    obtain ⟨ms, h1, h2⟩ := pairs_of fun z hz => h z (List.mem_cons_of_mem _ hz)
    obtain ⟨q, hq, rfl⟩ := h y List.mem_cons_self
    exact ⟨q :: ms, by rw [h1]; rfl, fun m hm => (List.mem_cons.mp hm).elim (fun z => z ▸ hq) (h2 m)⟩
theorem states_of {ns : List Str} : ∀ {ys : List PyData}, Paired (fun r q => ∃ s w, r = .str s ∧ q = .tuple [.str s, w] ∧ fine w = true ∧ w.depth ≤ 1) (ns.map PyData.str) ys → ∃ nws : List (Str × PyData), ys = nws.map stD ∧ nws.map (·.1) = ns ∧ ∀ p ∈ nws, fine p.2 = true ∧ p.2.depth ≤ 1 := by
  induction ns with
  | nil =>
    intro ys h
    cases h
    exact ⟨[], rfl, rfl, fun _ z => nomatch z⟩
  | cons n ns ih =>
    intro ys h
    cases h with
    | cons h1 h2 =>
      obtain ⟨s, w, e, rfl, f1, f2⟩ := h1
      cases e
      obtain ⟨nws, rfl, rfl, h3⟩ := ih h2
      exact ⟨(n, w) :: nws, rfl, rfl, fun m hm => (List.mem_cons.mp hm).elim (fun z => z ▸ ⟨f1, f2⟩) (h3 m)⟩
/-- the pairs of the first k of some texts, each with all behind it -/
def pairsN (ns : List Str) (k : Nat) : List (Str × Str) := (List.range k).flatMap fun j => match ns[j]? with
  | some t => (ns.drop (j + 1)).map fun u => (t, u)
  | none => []
theorem pairsN_succ {ns : List Str} {k : Nat} {t : Str} (h : ns[k]? = some t) : pairsN ns (k + 1) = pairsN ns k ++ (ns.drop (k + 1)).map fun u => (t, u) := by
  unfold pairsN
  rw [List.range_succ, List.flatMap_append]
  simp [h]
theorem pairsN_mem {ns : List Str} {k : Nat} {q : Str × Str} (h : q ∈ pairsN ns k) : q.1 ∈ ns ∧ q.2 ∈ ns := by
  obtain ⟨j, _, hj⟩ := List.mem_flatMap.mp h
  cases z : ns[j]? with
  | none => rw [z] at hj; cases hj
  | some t =>
    rw [z] at hj
    obtain ⟨u, hu, rfl⟩ := List.mem_map.mp hj
    exact ⟨List.mem_of_getElem? z, List.mem_of_mem_drop hu⟩
theorem pairsN_len {ns : List Str} (hn : ns.length ≤ 20) : ∀ k : Nat, (pairsN ns k).length ≤ 20 * k
  | 0 => Nat.le_refl _
  | k + 1 => by
    have ih := pairsN_len hn k
    cases z : ns[k]? with
    | none =>
      have : pairsN ns (k + 1) = pairsN ns k := by
        unfold pairsN
        rw [List.range_succ, List.flatMap_append]
        simp [z]
      rw [this]
      omega
    | some t =>
      rw [pairsN_succ z, List.length_append, List.length_map, List.length_drop]
      omega
end
end DL

namespace DL
open PySem PySem.Spec PyProof.Rows L2
open Evl (Ex)
open RZ
/-! ### a call with names alone -/
structure DfK (P : Program) (w : World) (K : PySem.W.Frag) (mg : Str → Option Value) (base : Heap) (k : Nat) (x : Str) (ps ks : List Str) (g : List Value → List Value → List Value) (gV : List V → List V → List V) (sp : Sp) : Prop where
  ex : ∃ f fd, FnOk P w K mg base CX0 k f fd ps sp ∧ mg x = some (.ref f) ∧ PySem.W.keepIn K (.ref f) = true ∧ KBinds K fd ps ks g gV
section
variable {P : Program} {w : World} {K : PySem.W.Frag} {mg : Str → Option Value} {base : Heap}
theorem Tx.ok2 {x : Str} {ps ks N : List Str} {st : Stmt} {k : Nat} {sp : Sp} {g : List Value → List Value → List Value} {gV : List V → List V → List V} (T : Tx K mg x ps st) (S : FnScope N ps (defScope st)) (len : ∀ vs H Q E, sp vs H Q E → vs.length = ps.length)
    (hkb : ∀ (kV doc pm : Value) (an : Option Addr) (cdv ct : Value) (us ws : List Value), (g us ws).length = ps.length → bindArgs (PySem.W.fnOf x x (defArgs st) (defBody st) (defScope st) .none kV doc pm an cdv ct) ⟨us, ks.zip ws⟩ = pure (ps.zip (g us ws)))
    (hrel : ∀ {vs : List V} {us : List Value} {zs : List V} {ws : List Value}, Vals vs us → Vals zs ws → Vals (gV vs zs) (g us ws))
    (hbody : ∀ (f : Addr) (cdv : Value) (A : Around) (outer : List Env) (s : Shared) (H : Hp) (vs : List V) (Q : VK) (E : XK), Room k (A.deeper (envOfC x (defScope st) s.heap.objs.size f cdv)) → sp vs H Q E →
      ∃ t, PSs (cxOf CX0 P w K mg base N x (defScope st) f cdv A outer s H E).nox (defBody st) t ∧ t { nx := fun _ H' => Q .non H', rt := Q } (L2.start N vs) H) : Df P w K mg base (k + 1) x ps sp ∧ DfK P w K mg base (k + 1) x ps ks g gV sp := by
  obtain ⟨f, fd, F, m, b⟩ := T.ex
  refine ⟨⟨f, fd, F.ok S len (hbody f), m, F.kp, b⟩, ⟨f, fd, F.ok S len (hbody f), m, F.kp, ?_⟩⟩
  obtain ⟨oc, od, kV, doc, pm, an, cdv, ct, osl, rfl, lk, hcd⟩ := F.ex
  exact ⟨fun s us ws _ hl => BindsTo.of_eq (hkb kV doc pm an cdv ct us ws hl), fun r1 r2 => hrel r1 r2⟩
variable {X : Cx} {x : Str} {ps ks : List Str} {sp : Sp} {g : List Value → List Value → List Value} {gV : List V → List V → List V} {p pos : Pos} {kws : List Keyword} {tk : TA} {j k : Nat}
theorem pe_defK0 (D : DfK X.prog X.w X.K X.mg X.base j x ps ks g gV sp) (hr : Room k X.A) (hj : j ≤ k) (hkw : PK X kws tk) (hg : Gl X x := by rfl) (hall : (backToKw pos (keywordEach kws X.env)).all (·.1.isSome) = true := by rfl) (hks : (backToKw pos (keywordEach kws X.env)).filterMap (·.1) = ks := by rfl)
    (hdb : (x == ("__debug__" : Str)) = false := by decide) (hpl : ((backTo pos (starEach [] X.env)).any (·.1) || (backToKw pos (keywordEach kws X.env)).any (·.1.isNone)) = false := by rfl) :
    PE X (.Call (.Name x p) [] kws pos) (tCallK sp gV E0 tNil tk) := by
  obtain ⟨f, fd, F, m, k1, b⟩ := D.ex
  refine ⟨fun pins s σ H Q I h => ?_⟩
  refine wpAny_Call_Name_kw (ld_glob I hg m ?_ hdb)
  refine PySem.W.callWith_KW0 (h₀ := X.base) I.ok.mod.kin k1 hall (thn (hkw.run pos pins s σ H _ I h) fun ws s2 ⟨zs, H2, I2, rz, q2⟩ => ⟨I2.kIn, ?_⟩) hpl
  rw [hks]
  exact run_fnk (us := []) (vs := []) (F.mono hj) hr b pass0 I2 .nil rz q2
end
def swapV {α : Type} : List α → List α → List α
  | [], [a, b] => [b, a]
  | _, _ => []
theorem swap_rel {vs : List V} {us : List Value} {zs : List V} {ws : List Value} (h1 : Vals vs us) (h2 : Vals zs ws) : Vals (swapV vs zs) (swapV us ws) := by
  cases h1 with
  | cons _ _ => exact .nil
  | nil =>
    cases h2 with
    | nil => exact .nil
    | cons a h2 => cases h2 with
      | nil => exact .nil
      | cons b h2 => cases h2 with
        | nil => exact .cons b (.cons a .nil)
        | cons _ _ => exact .nil
section
variable {K : PySem.W.Frag} {p : Addr} {Γ Δ : List G} {n m l : Nat} {ta tb te tk : TE} {tt tu : TT} {d e x y z : PyData} {ds : List PyData} {R R1 R2 : PyData → Prop} {g : TG} {vs : List Nat} {t u : TS} {On On1 : List G → Prop} {Or : PyData → Prop} {b : Bool} {dom : List PyData → PyData → Prop}
theorem ed_callK {E : XK} {tk : TA} (h : EA K tk Γ [y, x]) (hd : dom [x, y] d) : ED K (tCallK (spD K 2 dom) swapV E tNil tk) Γ d := fun _ _ σ Hd H e Q q =>
  h _ _ σ Hd H e _ fun vs Hd1 H1 x1 d1 => by
    cases d1 with
    | cons a d1 => cases d1 with
      | cons c d1 =>
        cases d1
        exact ⟨rfl, Hd1, _, _, x1.i, .cons c (.cons a .nil), hd, fun v Hd' H' x2 dv => q v Hd' H' (x1.trans x2) dv⟩
/-! ### more readings of data -/
theorem ed_ixR {i : Int} (h : ER K te Γ ds) (hk : ED K tk Γ (.int i)) (ha : atI ds i = some z) : ED K (tOp (rIx K) te tk) Γ z := fun _ _ σ Hd H e Q q =>
  h _ _ σ Hd H e _ fun a vs Hd1 H1 x1 h1 d1 => hk _ _ σ Hd1 H1 (e.ext x1) _ fun w Hd2 H2 x2 dk => by
    cases dk
    unfold atI at ha
    cases hj : ixN ds.length i with
    | none => rw [hj] at ha; cases ha
    | some j =>
      rw [hj] at ha
      obtain ⟨u, g1, g2⟩ := d1.got (i := j) ha
      exact .inl ⟨a, vs, i, u, rfl, rfl, SqL.of (x2.h _ _ h1), (by unfold atI; rw [d1.length, hj]; exact g1), q _ Hd2 H2 (x1.trans x2) (g2.mono x2.d)⟩
theorem ed_neg {i : Int} (h : ED K ta Γ (.int i)) : ED K (tUn (rU fun i => .int (-i)) ta) Γ (.int (-i)) := fun _ _ σ Hd H e Q q =>
  h _ _ σ Hd H e _ fun v Hd1 H1 x1 d1 => by
    cases d1
    exact ⟨i, rfl, q _ Hd1 H1 x1 (.int _)⟩
theorem ef_revL (h : ER K te Γ ds) : EF K (tRevL K te) Γ ds.reverse := fun _ _ σ Hd H e Q q =>
  h _ _ σ Hd H e _ fun a vs Hd1 H1 x1 h1 d1 => ⟨a, vs, rfl, SqL.of h1, fun l hl => q l _ Hd1 _ (x1.mut (Evl.fresh_back x1.h hl) (Evl.fresh_back x1.i hl)) (Evl.fresh_back x1.h hl) (Evl.fresh_back x1.i hl) upd_same d1.rev⟩
theorem dta_rep {H : Hp} {vs : List V} (h : DtA K H vs ds) : ∀ k : Nat, DtA K H (List.replicate k vs).flatten (List.replicate k ds).flatten
  | 0 => .nil
  | k + 1 => by
    rw [List.replicate_succ, List.replicate_succ, List.flatten_cons, List.flatten_cons]
    exact h.append (dta_rep h k)
theorem ef_rep {i : Int} (h : ED K ta Γ (.list ds)) (hk : ED K tb Γ (.int i)) (h1 : 0 ≤ i) (h2 : i ≤ 1000) (h3 : ds.length ≤ 100) : EF K (tOp rRep ta tb) Γ (List.replicate i.toNat ds).flatten := fun _ _ σ Hd H e Q q =>
  h _ _ σ Hd H e _ fun v Hd1 H1 x1 d1 => hk _ _ σ Hd1 H1 (e.ext x1) _ fun w Hd2 H2 x2 d2 => by
    cases d2
    cases d1 with
    | @lst a ws _ g1 g2 =>
      have hm : ws.length * i.toNat ≤ 100 * 1000 := Nat.mul_le_mul (by rw [g2.length]; exact h3) (by omega)
      have x12 := x1.trans x2
      exact ⟨a, i, ws, rfl, rfl, x2.h _ _ (x1.i _ _ g1), by omega, by omega, Nat.le_trans hm (by decide), fun l hl => q l _ Hd2 _ (x12.mut (Evl.fresh_back x12.h hl) (Evl.fresh_back x12.i hl)) (Evl.fresh_back x12.h hl) (Evl.fresh_back x12.i hl) upd_same (dta_rep (g2.mono x2.d) _)⟩
/-! ### more statements among those that draw -/
theorem sb_parD {i j : Nat} (h1 : ED K ta Γ x) (h2 : ED K tb Γ y) : SB K p (tPar i j (tCons ta (tCons tb tNil))) Γ 0 (fun Δ => Δ = (Γ.set i (.dat x)).set j (.dat y)) Or := fun _ _ c σ Hd H e hc D q1 _ =>
  h1 _ _ σ Hd H e.en _ fun v Hd1 H1 x1 d1 => h2 _ _ σ Hd1 H1 (e.en.ext x1) _ fun w Hd2 H2 x2 d2 =>
    ⟨_, _, rfl, q1 _ _ Hd2 H2 rfl ((((e.ext x1).ext x2).set (d1.mono x2.d)).set d2) (x1.d.trans x2.d)⟩
theorem sb_ownL {i : Nat} (h : EB K p te Γ n R) : SB K p (tAsg (tLst (tCons te tNil)) (gName i)) Γ n (fun Δ => ∃ d, R d ∧ Δ = Γ.set i (.own [d])) Or := fun _ _ c σ Hd H e hc D q1 _ =>
  h _ _ c σ Hd H e hc _ fun v r Hd1 H1 hr x1 e1 d1 => ⟨by show 1 ≤ sizeLine; decide, fun a ha => by
    have n1 := Evl.fresh_back e1.en.x.i ha
    have e2 := e1.ext ((Ext.refl e1.en.x.i).mut (o := .lst [v]) ha n1)
    have hap : a ≠ p := fun z => by
      subst z
      obtain ⟨o, ho, _⟩ := e1.b
      rw [ha] at ho
      cases ho
    refine q1 _ _ Hd1 _ ⟨r, hr, rfl⟩ (e2.setOwn (Evl.fresh_back e1.en.x.h ha) n1 upd_same (.cons d1 .nil) hap fun j es hj hs => ?_) x1.d
    obtain ⟨b, vs, g1, _, _, g4, _⟩ := e1.en.own hj
    rw [hs] at g1
    cases g1
    rw [ha] at g4
    cases g4⟩
variable (K p) in
/-- a test that draws -/
def ETB (tt : TT) (Γ : List G) (n : Nat) (R : Bool → Prop) : Prop := ∀ Hd0 H0 c σ Hd H, EnB K p Hd0 H0 Γ c σ Hd H → c + n < 2 ^ 60 → ∀ Q : Bool → Hp → Prop, (∀ b Hd' H', R b → Ext Hd (hid p H) Hd' H' → EnB K p Hd0 H0 Γ (c + n) σ Hd' H' → Q b H') → tt σ H Q
variable {Q1 Q2 : Bool → Prop}
theorem etb_pure (h : ET K tt Γ b) : ETB K p tt Γ 0 (fun c => c = b) := fun _ _ c σ Hd H e _ Q q => h _ _ σ Hd H e.en _ fun Hd1 H1 x1 => q b Hd1 H1 rfl x1.hidE (e.ext x1)
theorem etb_test (h : EB K p te Γ n R) (hR : ∀ r, R r → ∃ b, r = .bool b) : ETB K p (tTest te) Γ n (fun b => R (.bool b)) := fun _ _ c σ Hd H e hc Q q => h _ _ c σ Hd H e hc _ fun v r Hd1 H1 hr x1 e1 d1 => by
  obtain ⟨b, rfl⟩ := hR r hr
  cases d1
  exact ⟨b, rfl, q b Hd1 H1 hr x1 e1⟩
theorem etb_and (h1 : ETB K p tt Γ n Q1) (h2 : Q1 true → ETB K p tu Γ m Q2) : ETB K p (tAnd tt tu) Γ (n + m) (fun b => b = true → Q1 true ∧ Q2 true) := fun _ _ c σ Hd H e hc Q q => h1 _ _ c σ Hd H e (by omega) _ fun b Hd1 H1 hr x1 e1 => by
  cases b with
  | true => exact iteT (h2 hr _ _ _ σ Hd1 H1 e1 (by omega) _ fun b Hd2 H2 hr2 x2 e2 => q b Hd2 H2 (fun z => ⟨hr, z ▸ hr2⟩) (x1.hid2 x2) (by have := e2; rw [Nat.add_assoc] at this; exact this))
  | false => exact iteF (q false Hd1 H1 (fun z => nomatch z) x1 (e1.mono (by omega)))
theorem eb_ifB (h : ETB K p tt Γ n Q1) (h1 : Q1 true → EB K p ta Γ m R) (h2 : EB K p tb Γ m R) : EB K p (tIf tt ta tb) Γ (n + m) R := fun _ _ c σ Hd H e hc Q q => h _ _ c σ Hd H e (by omega) _ fun b Hd1 H1 hr x1 e1 => by
  cases b with
  | true => exact iteT (h1 hr _ _ _ σ Hd1 H1 e1 (by omega) _ fun v r Hd2 H2 hr2 x2 e2 dv => q v r Hd2 H2 hr2 (x1.hid2 x2) (by have := e2; rw [Nat.add_assoc] at this; exact this) dv)
  | false => exact iteF (h2 _ _ _ σ Hd1 H1 e1 (by omega) _ fun v r Hd2 H2 hr2 x2 e2 dv => q v r Hd2 H2 hr2 (x1.hid2 x2) (by have := e2; rw [Nat.add_assoc] at this; exact this) dv)
end
end DL

namespace DL
open PySem PySem.Spec PyProof.Rows L2
open Evl (Ex)
open RZ
/-! ### enumerate(text), tuple(text) -/
def Ites (x : Str) : It :=
  ⟨fun i _ => i < x.cps.size, fun i H v H' => ∃ T c, v = .ref T ∧ H T = none ∧ H' = upd H T (.tup [.int (i : Nat), .str ⟨#[c]⟩]) ∧ x.cps[i]? = some c, fun i _ => i = x.cps.size⟩
theorem two_cases {a b c : Addr} {p : Addr → Prop} (h : c ∈ [a, b]) (ha : p a) (hb : p b) : p c := by
  rcases List.mem_cons.mp h with q | q
  · exact q ▸ ha
  · exact List.mem_singleton.mp q ▸ hb
/-- the signs of a text, drawn one by one -/
theorem signs_drawn {P : Program} {w : World} {A : Around} (quiet : A.handled = none) {it : Addr} {x : Str} {t : Tok} {ty : String} (kind : ty = "str_ascii_iterator" ∨ ty = "str_iterator") :
    Draws P w A it [it] x.cps.size (fun n v => ∃ c u, x.cps[n]? = some c ∧ v = .str ⟨#[c]⟩ u) (fun n h => h.IsStrIter it ty x t n) := by
  rcases kind with rfl | rfl
  · exact Draws.strAscii quiet it x t
  · exact Draws.strWide quiet it x t
theorem turn_enumS {P : Program} {w : World} {K : PySem.W.Frag} {es : List Expr} {q : Nat} {ps : Pos} (en it : Addr) (x : Str) (t : Tok) (ty : String) (kind : ty = "str_ascii_iterator" ∨ ty = "str_iterator") :
    Turn P w K (.Tuple es q ps) (Ites x) [en, it] en (fun n h => en ≠ it ∧ h.IsStrIter it ty x t n ∧ ∃ last, IsEnum h en it ((n : Nat) : Int) last) where
  mem := List.mem_cons_self
  obj := fun n h ⟨_, ⟨o, oat, _, od⟩, _, eat⟩ b hb => two_cases (p := fun b => ∃ o, h.get? b = some o ∧ ∀ v, o.data ≠ .cell v) hb ⟨_, eat, fun _ z => nomatch z⟩ ⟨o, oat, fun _ z => by rw [od] at z; exact nomatch z⟩
  keep := fun n h h2 ⟨apart, ⟨o, oat, r⟩, last, eat⟩ k => ⟨apart, ⟨o, k it (List.mem_cons_of_mem _ List.mem_cons_self) o oat, r⟩, last, k en List.mem_cons_self _ eat⟩
  item := by
    rintro Y rfl rfl rfl calm n pins s σ H E J free ⟨apart, iter, last, eat⟩ more
    obtain ⟨_, itat, _⟩ := id iter
    have old : ∀ b ∈ [en, it], b < s.heap.objs.size := fun b hb => two_cases (p := fun b => b < s.heap.objs.size) hb (Heap.lt_size eat) (Heap.lt_size itat)
    refine wpAny_pyNext_enum_itemD (signs_drawn (A := Y.A.in1) (show Y.A.in1.handled = none from J.ok.hd calm) kind) eat iter more apart (fun z => apart (List.mem_singleton.mp z)) fun u g tk sign out next pair _ rest => ?_
    obtain ⟨c, tc, at_c, rfl⟩ := sign
    refine ⟨_, rfl, wpAny_letOwnedTupleGo_enum (s := { s with heap := g, toks := tk + 1 }) out fun g2 eat2 only => ?_⟩
    have fresh : H s.heap.objs.size = none := J.hok.fresh (Nat.le_refl _)
    have pair2 := (only.2 s.heap.objs.size (Nat.ne_of_gt (old en List.mem_cons_self))).trans pair
    have made : ObjOk Y.prog Y.w (upd H s.heap.objs.size (.tup [.int (n : Nat), .str ⟨#[c]⟩])) g2 s.heap.objs.size (.tup [.int (n : Nat), .str ⟨#[c]⟩]) :=
      ⟨(by show 2 ≤ sizeLine; decide), [.int n tk, .str ⟨#[c]⟩ tc], .cons ⟨_, rfl⟩ (.cons ⟨_, rfl⟩ .nil), ⟨_, pair2, rfl, _, rfl⟩⟩
    have J2 := J.turnedNew (t' := tk + 1) (ch := [en, it]) (h' := g2) (fun b ob out2 was => by
      have n1 : b ≠ en := fun z => out2 (z ▸ List.mem_cons_self)
      have n2 : b ≠ it := fun z => out2 (z ▸ List.mem_cons_of_mem _ List.mem_cons_self)
      exact (only.2 b n1).trans (rest b ob n1 n2 was)) free (Nat.le_refl _) made
    obtain ⟨oi, nat, nr⟩ := next
    refine ⟨.ref s.heap.objs.size, _, J2, rfl, ⟨_, c, rfl, fresh, rfl, at_c⟩, ⟨apart, ⟨oi, (only.2 it apart.symm).trans nat, nr⟩, .str ⟨#[c]⟩ tc, ?_⟩, fun b hb => ?_⟩
    · rw [show ((n + 1 : Nat) : Int) = (n : Int) + 1 by omega]
      exact eat2
    · show upd H _ _ b = none
      rw [upd_ne (Nat.ne_of_lt (old b hb)), (free b hb).1]
  done := by
    rintro Y rfl rfl rfl calm n pins s σ H E J free ⟨apart, iter, last, eat⟩ rfl
    have ⟨w0, w1, _, w3, w4, w5⟩ := free it (List.mem_cons_of_mem _ List.mem_cons_self)
    exact wpAny_pyNext_enum_endD (signs_drawn (A := Y.A.in1) (show Y.A.in1.handled = none from J.ok.hd calm) kind) eat iter fun g kept => ⟨rfl, J.turned (t' := s.toks) (fun b o nb was => kept b o nb was) w0 w1 w3 w4 w5⟩
  self := fun A n s Q E ⟨_, _, _, eat⟩ h => wpAny_pyIter_enum eat h
def iEnumS (ta : TA) : TI := fun σ H R => ta σ H fun vs H1 => ∃ x, vs = [.str x] ∧ R (Ites x) H1
theorem pi_enumS {X : Cx} {e : Expr} {ta : TA} {p q ps : Pos} {es : List Expr} {n : Nat} (hg : Gl X "enumerate") (hm : X.mg "enumerate" = none) (ha : PA X [e] ta) (plain : starEach [e] X.env = [(false, eval e X.env)] := by rfl) :
    PI X (.Tuple es n ps) (.Call (.Name "enumerate" p) [e] [] q) (iEnumS ta) := ⟨fun pins s σ H R J h => by
  refine Call_ (ld_blt J hg hm boot_enumerate ?_)
  refine PyProof.Rows.callWith_type1 (thn (ha.run q pins s σ H _ J h) fun us s1 ⟨vs, H1, J1, rel, x, ev, go⟩ => ?_) plain rfl
  subst ev
  obtain ⟨_, rfl, t, rfl⟩ := vals1 rel
  refine call_enumerate_str fun g eat iter _ kept => wpAny_pyIter_enum eat ?_
  have J2 : Inv X pins σ H1 { s1 with heap := g } := J1.kept (t' := s1.toks) kept
  have kind : strIterType x = "str_ascii_iterator" ∨ strIterType x = "str_iterator" := by
    unfold strIterType
    split <;> simp
  refine ⟨s1.heap.objs.size + 1, [s1.heap.objs.size + 1, s1.heap.objs.size], _, _, H1, rfl, J2, turn_enumS (s1.heap.objs.size + 1) s1.heap.objs.size x t (strIterType x) kind, ⟨Nat.succ_ne_self _, iter, .none, eat⟩, fun b hb => ?_, go⟩
  have late := two_cases (p := fun b => s1.heap.objs.size ≤ b) hb (Nat.le_succ _) (Nat.le_refl _)
  exact J1.fpOk late (J1.hok.fresh late)⟩
def charsD (x : Str) : List PyData := x.cps.toList.map fun c => .str ⟨#[c]⟩
section
variable {K : PySem.W.Frag} {Γ : List G}
theorem ei_enumS {ta : TA} {x : Str} (h : EA K ta Γ [.str x]) : EI K (iEnumS ta) Γ (enumD (charsD x)) := fun _ _ σ Hd H e R q => h _ _ σ Hd H e _ fun v Hd1 H1 x1 d1 => by
  cases d1 with
  | cons d1 d2 =>
    cases d1
    cases d2
    have hl : (enumD (charsD x)).length = x.cps.size := by unfold enumD charsD; rw [zipD_len]; simp
    refine ⟨x, rfl, q _ Hd1 H1 x1 fun Hd' H' e1 e2 => ⟨hl, fun i d hd => ?_⟩⟩
    have hi : i < x.cps.size := hl ▸ (List.getElem?_eq_some_iff.mp hd).1
    refine ⟨hi, fun v H'' ⟨T, c, ev, hT, eH, hc⟩ => ?_⟩
    subst ev eH
    obtain ⟨y, z, hy, hz, rfl⟩ := zipD_get hd
    have ey : y = .int (i : Nat) := by
      rw [List.getElem?_map, List.getElem?_range (by unfold charsD; simpa using hi)] at hy
      exact (Option.some.inj hy).symm
    have ez : z = .str ⟨#[c]⟩ := by
      unfold charsD at hz
      rw [List.getElem?_map, Array.getElem?_toList, hc] at hz
      exact (Option.some.inj hz).symm
    subst ey ez
    exact ⟨_, (Ext.refl e2).new hT, .tup upd_same (.cons (.int _) (.cons (.str _) .nil))⟩
end
theorem vals_signs : ∀ (l : List Nat) (m : List Value), m.length = l.length → (∀ (j : Nat) (v : Value), m[j]? = some v → ∃ c u, l[j]? = some c ∧ v = .str ⟨#[c]⟩ u) → Vals (l.map fun c => V.str ⟨#[c]⟩) m
  | [], [], _, _ => .nil
  | [], _ :: _, h, _ => nomatch h
  | _ :: _, [], h, _ => nomatch h
  | c :: l, v :: m, h, q => by
    obtain ⟨c', u, e, rfl⟩ := q 0 v rfl
    cases e
    exact .cons ⟨u, rfl⟩ (vals_signs l m (by simpa using h) fun j v hj => q (j + 1) v hj)
def rTupS : List V → Hp → VK → Prop := fun xs H Q => ∃ x : Str, xs = [.str x] ∧ x.cps.size ≤ sizeLine ∧ ∀ l, H l = none → Q (.ref l) (upd H l (.tup (x.cps.toList.map fun c => .str ⟨#[c]⟩)))
theorem call_tupS {X : Cx} (hc : X.calm = true) : CallR X (.type "tuple") rTupS := by
  intro pins s σ H xs us Q I r h
  obtain ⟨x, rfl, hz, q⟩ := h
  obtain ⟨u, rfl, ru⟩ := vals1 r
  obtain ⟨t, rfl⟩ := ru
  refine call_tuple_str (I.ok.hd hc) x t (fun h' tk acc hk hacc => ?_) hz
  have I1 : Inv X pins σ H { s with heap := h', toks := tk } := I.kept (t' := tk) hk
  have hv : Vals (x.cps.toList.map fun c => V.str ⟨#[c]⟩) acc.toList := by
    refine vals_signs _ _ (by rw [Array.length_toList, Array.length_toList]; exact hacc.1) fun j v hj => ?_
    obtain ⟨c, u, e1, e2⟩ := hacc.2 j v (by rw [← Array.getElem?_toList]; exact hj)
    exact ⟨c, u, by rw [Array.getElem?_toList]; exact e1, e2⟩
  have I2 : Inv X pins σ (upd H h'.objs.size (.tup (x.cps.toList.map fun c => .str ⟨#[c]⟩))) { s with heap := h'.push { cls := .type "tuple", data := .seq acc }, toks := tk } :=
    I1.laid (t' := tk) (fun b o e => Heap.get?_push_of_some _ e) (Nat.le_refl _) (show ObjOk X.prog X.w _ _ _ (.tup _) from ⟨by simpa using hz, acc.toList, hv, by simpa using IsTup.new _ _⟩)
  exact ⟨.ref h'.objs.size, _, I2, rfl, q _ (I1.hok.fresh (Nat.le_refl _))⟩
theorem ed_tupS {K : PySem.W.Frag} {Γ : List G} {te : TE} {x : Str} (h : ED K te Γ (.str x)) (hl : x.cps.size ≤ 100000) : ED K (tCB rTupS (tCons te tNil)) Γ (.tuple (charsD x)) := fun _ _ σ Hd H e Q q => h _ _ σ Hd H e _ fun v Hd1 H1 x1 d1 => by
  cases d1
  refine ⟨x, rfl, fits_of hl, fun l hl => q _ (upd Hd1 l (.tup _)) _ (x1.new hl) (.tup upd_same ?_)⟩
  have := DtA.strs (K := K) (H := upd Hd1 l (.tup (x.cps.toList.map fun c => .str ⟨#[c]⟩))) (x.cps.toList.map fun c => (⟨#[c]⟩ : Str))
  rw [List.map_map, List.map_map] at this
  exact this
section
variable {K : PySem.W.Frag} {Γ : List G} {te ta tb : TE} {ds : List PyData}
theorem ed_int1I {i : Int} (h : ED K te Γ (.int i)) : ED K (tCB (fun xs H Q => (∃ i, xs = [V.int i] ∧ Q (V.int i) H) ∨ ∃ k, xs = [V.bl k] ∧ Q (V.int (if k then 1 else 0)) H) (tCons te tNil)) Γ (.int i) := fun _ _ σ Hd H e Q q => h _ _ σ Hd H e _ fun v Hd1 H1 x1 d1 => by
  cases d1
  exact .inl ⟨i, rfl, q _ Hd1 H1 x1 (.int i)⟩
theorem ed_int1B {b : Bool} (h : ED K te Γ (.bool b)) : ED K (tCB (fun xs H Q => (∃ i, xs = [V.int i] ∧ Q (V.int i) H) ∨ ∃ k, xs = [V.bl k] ∧ Q (V.int (if k then 1 else 0)) H) (tCons te tNil)) Γ (.int (if b then 1 else 0)) := fun _ _ σ Hd H e Q q => h _ _ σ Hd H e _ fun v Hd1 H1 x1 d1 => by
  cases d1
  exact .inr ⟨b, rfl, q _ Hd1 H1 x1 (.int _)⟩
theorem ed_repT {i : Int} (h : ED K ta Γ (.tuple ds)) (hk : ED K tb Γ (.int i)) (hn : ds ≠ []) (h1 : 2 ≤ i) (h2 : i ≤ 1000) (h3 : ds.length ≤ 100) : ED K (tOp (rRepT K) ta tb) Γ (.tuple (List.replicate i.toNat ds).flatten) := fun _ _ σ Hd H e Q q =>
  h _ _ σ Hd H e _ fun v Hd1 H1 x1 d1 => hk _ _ σ Hd1 H1 (e.ext x1) _ fun w Hd2 H2 x2 d2 => by
    cases d2
    cases d1 with
    | @tup a ws _ g1 g2 =>
      have hl := g2.length
      have x12 := x1.trans x2
      exact ⟨a, i, ws, rfl, rfl, SqT.of (x2.h _ _ (x1.i _ _ g1)), fun z => hn (List.eq_nil_of_length_eq_zero (by rw [← hl, z]; rfl)), h1, h2, by omega, fun l hl => q _ (upd Hd2 l (.tup _)) _ (x12.new hl) (.tup upd_same ((dta_rep (g2.mono x2.d) _).mono (Ex.new (Evl.fresh_back x12.i hl))))⟩
end
end DL

namespace DL
open PySem PySem.Spec PyProof.Rows L2
open Evl (Ex)
open RZ
/-! ### chains of two comparisons, texts' lengths, signs of a text -/
section
variable {K : PySem.W.Frag} {Γ : List G} {ta tb tc te : TE} {b1 b2 : Bool} {s : Str}
theorem ed_chain {r r' : R2} {x y z : PyData} (h1 : ED K ta Γ x) (h2 : ED K tb Γ y) (hr : RD K r x y (.bool b1)) (h3 : b1 = true → ED K tc Γ z) (hs : b1 = true → RD K r' y z (.bool b2)) : ED K (tChain r r' ta tb tc) Γ (.bool (b1 && b2)) := fun _ _ σ Hd H e Q q =>
  h1 _ _ σ Hd H e _ fun v Hd1 H1 x1 d1 => h2 _ _ σ Hd1 H1 (e.ext x1) _ fun w Hd2 H2 x2 d2 => hr Hd2 H2 v w x2.i (d1.mono x2.d) d2 _ fun u Hd3 H3 x3 d3 => by
    have x123 := x1.trans (x2.trans x3)
    cases d3
    refine ⟨b1, rfl, ?_⟩
    cases b1 with
    | false => exact iteF (q _ Hd3 H3 x123 (.bl false))
    | true => exact iteT (h3 rfl _ _ σ Hd3 H3 (e.ext x123) _ fun a Hd4 H4 x4 d4 => hs rfl Hd4 H4 w a x4.i (d2.mono (x3.d.trans x4.d)) d4 _ fun c Hd5 H5 x5 d5 => q c Hd5 H5 (x123.trans (x4.trans x5)) d5)
theorem ed_lenS (h : ED K te Γ (.str s)) (hl : s.length ≤ 100000) : ED K (tCB (fun xs H Q => ∃ x : Str, xs = [V.str x] ∧ x.length ≤ sizeLine ∧ Q (V.int x.length) H) (tCons te tNil)) Γ (.int s.length) := fun _ _ σ Hd H e Q q => h _ _ σ Hd H e _ fun v Hd1 H1 x1 d1 => by
  cases d1
  exact ⟨s, rfl, fits_of hl, q _ Hd1 H1 x1 (.int _)⟩
theorem ed_sum {ns : List Int} (h : ER K te Γ (ns.map PyData.int)) : ED K (tCB (rSum K) (tCons te tNil)) Γ (.int ns.sum) := fun _ _ σ Hd H e Q q => h _ _ σ Hd H e _ fun a vs Hd1 H1 x1 h1 d1 =>
  ⟨a, ns, rfl, SqL.of (by rw [h1, d1.ofInts]), q _ Hd1 H1 x1 (.int _)⟩
theorem dtk_any {H : Hp} {x : Str} : ∀ {ks : List (Key × V)} {kvs : List (PyData × PyData)}, DtK K H ks kvs → (∀ p ∈ kvs, p.1 ≠ .str x) → (ks.any fun kv => decide (kv.1 = (.inr x : Key))) = false
  | [], _, h, _ => rfl
  | (k, v) :: ks, _, h, ne => by
    cases h with
    | @cons y _ _ d _ h1 h2 =>
      rw [List.any_cons, dtk_any h2 fun p hp => ne p (List.mem_cons_of_mem _ hp), Bool.or_false]
      refine decide_eq_false fun q => ne (.str y, d) List.mem_cons_self ?_
      rw [Sum.inr.inj q]
theorem dtk_len {H : Hp} : ∀ {ks : List (Key × V)} {kvs : List (PyData × PyData)}, DtK K H ks kvs → ks.length = kvs.length
  | [], _, h => by cases h; rfl
  | _ :: _, _, h => by
    cases h with
    | cons h1 h2 => rw [List.length_cons, List.length_cons, dtk_len h2]
theorem dtk_mono {H H' : Hp} (e : Ex H H') : ∀ {ks : List (Key × V)} {kvs : List (PyData × PyData)}, DtK K H ks kvs → DtK K H' ks kvs
  | [], _, h => by cases h; exact .nil
  | _ :: _, _, h => by
    cases h with
    | cons h1 h2 => exact .cons (h1.mono e) (dtk_mono e h2)
/-- {k: v for .. in ..}, the keys texts, no one twice -/
theorem ed_dc {wi : TI} {g : TG} {tk tv : TE} {vs : List Nat} {ds : List PyData} {ns : List Str} {f : Str → PyData} (hi : EI K wi Γ ds) (hn : ds.length = ns.length) (hl : ns.length ≤ 100000) (nd : ns.Nodup)
    (ht : ∀ (k : Nat) (d : PyData) (n : Str), ds[k]? = some d → ns[k]? = some n → ∃ Δ, GD K g (wipeG Γ vs) d vs Δ ∧ ED K tk Δ (.str n) ∧ ED K tv Δ (f n)) : ED K (tDc wi g tYes tk tv vs) Γ (.dict (ns.map fun n => (.str n, f n))) := by
  intro Hd0 H0 σ Hd H e Q q
  refine hi _ _ σ Hd H e _ fun J Hd1 H1 x1 ok D hD => ?_
  have nD : H D = none := Evl.fresh_back x1.h hD
  have nD1 : Hd1 D = none := Evl.fresh_back x1.i hD
  refine ⟨fun i m G => m = ds.length - i ∧ i ≤ ds.length ∧ ∃ Hd2 acc, Ext Hd1 H1 Hd2 G ∧ Hd2 D = none ∧ G D = some (.dK acc) ∧ DtK K Hd2 acc ((ns.take i).map fun n => (.str n, f n)),
    ⟨ds.length, rfl, Nat.zero_le _, Hd1, [], (Ext.refl x1.i).mut hD nD1, nD1, upd_same, .nil⟩, ?_⟩
  rintro i m G ⟨rfl, hle, Hd2, acc, x2, n2, a2, t2⟩
  obtain ⟨st, go⟩ := ok Hd2 G x2.d x2.i
  by_cases hlt : i < ds.length
  · have hd : ds[i]? = some ds[i] := by simp [hlt]
    have hns : ns[i]? = some (ns[i]'(hn ▸ hlt)) := by simp [hn ▸ hlt]
    obtain ⟨gi, yl⟩ := go i _ hd
    refine .inr ⟨gi, fun G' => ∃ Hd2 acc, Ext Hd1 H1 Hd2 G' ∧ Hd2 D = none ∧ G' D = some (.dK acc) ∧ DtK K Hd2 acc ((ns.take (i + 1)).map fun n => (.str n, f n)), fun G' w => ⟨ds.length - (i + 1), by omega, rfl, hlt, w⟩, fun x H3 y3 => ?_⟩
    obtain ⟨Hd3, x3, d3⟩ := yl x H3 y3
    obtain ⟨Δ, hg, htk, htv⟩ := ht i _ _ hd hns
    generalize ns[i]'(hn ▸ hlt) = n at hns htk htv
    have x13 := x2.trans x3
    have n3 : Hd3 D = none := x3.f _ _ n2 a2
    have a3 := x3.h _ _ a2
    refine hg _ _ _ Hd3 H3 x ((e.ext (x1.trans x13)).wipe vs) d3 _ fun σ2 e2 w2 => ⟨w2.trans (wipe_wipe fun _ z => z), ?_⟩
    refine et_yes _ _ σ2 Hd3 H3 e2 _ fun Hd6 H6 x6 => iteT (htk _ _ σ2 Hd6 H6 (e2.ext x6) _ fun y Hd4 H4 x4' d4 => htv _ _ σ2 Hd4 H4 ((e2.ext x6).ext x4') _ fun z Hd5 H5 x5 d5 => ?_)
    have x4 := x6.trans x4'
    cases d4
    have n5 : Hd5 D = none := x5.f _ _ (x4.f _ _ n3 a3) (x4.h _ _ a3)
    have a5 := x5.h _ _ (x4.h _ _ a3)
    have hnew : ∀ p ∈ ((ns.take i).map fun n => (PyData.str n, f n)), p.1 ≠ .str n := fun p hp eq => by
      obtain ⟨u, hu, rfl⟩ := List.mem_map.mp hp
      have eu : u = n := PyData.str.inj eq
      subst eu
      obtain ⟨j, hj1, hj2⟩ := List.mem_take_iff_getElem.mp hu
      have hj3 : ns[j]? = some u := by rw [List.getElem?_eq_getElem (by omega)]; exact congrArg some hj2
      have := nd_ix nd hj3 hns
      omega
    have t5 := dtk_mono (x3.d.trans (x4.d.trans x5.d)) t2
    have hlen := dtk_len t5
    rw [List.length_map, List.length_take] at hlen
    refine ⟨acc, .inr n, rfl, a5, Nat.lt_of_lt_of_le (by omega : acc.length < 100000) (by decide : 100000 ≤ sizeLine), Hd5, acc ++ [(.inr n, z)], (x13.trans (x4.trans x5)).mut hD n5, n5, ?_, ?_⟩
    · rw [upd_same]
      unfold putK
      rw [if_neg (by rw [dtk_any t5 hnew]; exact Bool.false_ne_true)]
    · rw [List.take_add_one, hns, List.map_append]
      exact dtk_snoc t5 d5
  · have ei : i = ds.length := by omega
    subst ei
    rw [hn, List.take_length] at t2
    exact .inl ⟨st, q _ (upd Hd2 D (.dK acc)) G ((x1.trans x2).take nD n2 a2) (.dct upd_same (dtk_mono (Ex.new n2) t2))⟩
/-- whether a text stands in another one, as the language looks -/
def inTxt (i j : Str) : Bool := !(Builtin.Str.occurrences j i 0 j.length 1).isEmpty
theorem rd_inS {i j : Str} : RD K (fun x y H Q => ∃ i j, x = V.str i ∧ y = V.str j ∧ Q (V.bl (!(Builtin.Str.occurrences j i 0 j.length 1).isEmpty)) H) (.str i) (.str j) (.bool (inTxt i j)) := fun Hd H v w e d1 d2 Q q => by
  cases d1
  cases d2
  exact ⟨i, j, rfl, rfl, q _ Hd H (.refl e) (.bl _)⟩
end
/-! ### CHARTS, by the look of a thing -/
def numB : PyData → Bool
  | .int _ => true
  | _ => false
def pairB : PyData → Bool
  | .tuple xs => decide (xs.length = 2)
  | _ => false
def lettersS : Str := "abcdefghijklmnopqrstuvwxyz"
def nameB : PyData → Bool
  | .str s => (decide (1 ≤ (s.length : Int)) && decide ((s.length : Int) ≤ 8)) && (charsD s).all fun c => match c with | .str x => inTxt x lettersS | _ => false
  | _ => false
def geTwo : PyData → Bool
  | .int i => decide (2 ≤ i)
  | _ => false
def sizesB : PyData → Bool
  | .tuple xs => decide (xs.length ≠ 0) && xs.all fun x => numB x && geTwo x
  | _ => false
def domB (f : PyData → Bool) : List PyData → PyData → Prop := fun ds r => ∃ d, ds = [d] ∧ fine d = true ∧ r = .bool (f d)
end DL

namespace DL
open PySem PySem.Spec PyProof.Rows L2
open Evl (Ex)
open RZ
/-! ### own errors over any built-in error, with an __init__ of their own -/
structure OwnE (K : PySem.W.Frag) (C : Addr) (B newId initId : String) (bmB : List Value) : Prop where
  base : ExcBaseFacts B newId initId bmB
  st : StoreFacts B bmB "object.__setattr__" "object"
  made : PySem.W.excInitIn K C bmB newId = true
  ov : PySem.W.excOver K C bmB = true
  sa : PySem.W.findIn K (.ref C) "__setattr__" = some (some (.builtin "object.__setattr__"))
  hd : PySem.W.hasDictIn K C = true
  kC : PySem.W.keepIn K (.ref C) = true
section
variable {X : Cx} {pins : List (Addr × Obj)} {σ : L2.St} {H : Hp} {s : Shared} {a C dx : Addr} {f : Str} {y : V} {u : Value} {B newId initId : String} {bmB : List Value} {Q : Unit → Shared → Prop} {E : Value → Shared → Prop} {A : Around}
/-- self.f = y, the first field -/
theorem own_first (T : OwnE X.K C B newId initId bmB) (I : Inv X pins σ H s) (e : H a = some (exo a C none)) (ht : PySem.W.takerIn X.K C f = some none) (ry : RelV y u)
    (q : ∀ dx s', H dx = none → dx ≠ a → Inv X pins σ (upd (upd H dx (exd dx [(f, y)])) a (exo a C (some dx))) s' → Q () s') : wpAny (model X.prog X.w) A (setAttr (.ref a) f u) Q E s := by
  obtain ⟨t1, ho⟩ := exo_at I.hok e
  obtain ⟨cd, hc, hdict⟩ := PySem.W.any_some T.hd
  refine PySem.W.set_plain (od := none) I.kIn ⟨ho, rfl, rfl, trivial⟩ T.sa ?_
  refine PySem.W.osa_openX (od := none) T.st I.kIn ⟨ho, rfl, rfl, trivial⟩ T.ov ht fun b => ?_
  refine wpAny_bind (wpAny_pure (wpAny_bind (PySem.W.instanceDict_exc ho (PySem.W.looks_clsIn I.kIn hc) hdict ?_)))
  show wpAny _ _ (Builtin.ObjectAttr.storeInDict s.heap.objs.size (.str f _) f u) _ _ _
  refine HandSPX.store_in_new ?_ fun g tk dict only => ?_
  · exact ⟨_, #[], 0, (Heap.get?_update_ne _ _ _ _ (Nat.ne_of_gt (Heap.lt_size ho))).trans (Heap.get?_push_size _ rfl), rfl, (fun x hx => by simp at hx), fun _ => rfl⟩
  have old : ∀ {b : Addr} {o : Obj}, s.heap.get? b = some o → b ≠ s.heap.objs.size := fun h => Nat.ne_of_lt (Heap.lt_size h)
  have rest : ∀ b o, b ≠ a → s.heap.get? b = some o → g.get? b = some o := fun b o nb was =>
    (only.2 b (old was)).trans ((Heap.get?_update_ne _ _ _ _ nb).trans (Heap.get?_push_of_some _ was))
  have here := (only.2 a (old ho)).trans (Heap.get?_update_self _ (Heap.get?_push_of_some _ ho) rfl)
  have new : H s.heap.objs.size = none := I.hok.fresh (Nat.le_refl _)
  have apart : s.heap.objs.size ≠ a := (old ho).symm
  have away : ∀ {b : Addr}, H b = none → b ≠ a := fun hb z => by subst z; rw [e] at hb; cases hb
  have look : ∀ {b : Addr}, b ≠ a → b ≠ s.heap.objs.size → (upd (upd H s.heap.objs.size (exd s.heap.objs.size [(f, y)])) a (exo a C (some s.heap.objs.size))) b = H b := fun h1 h2 => by rw [upd_ne h1, upd_ne h2]
  have un : Un X.fs [] H (upd (upd H s.heap.objs.size (exd s.heap.objs.size [(f, y)])) a (exo a C (some s.heap.objs.size))) s.heap g := by
    constructor
    · exact fun b o was nb _ _ => rest b o (away nb) was
    · exact fun b o was nb _ _ => ⟨o.slots, rest b o (away nb) was⟩
    · exact fun b o was nb _ => (look (away nb) (old was)).trans nb
    · intro b o was _
      by_cases hb : b = a
      · subst hb; exact ⟨_, here⟩
      · exact ⟨o, rest b o hb was⟩
    · exact fun b xs hb => (look (at_ne e hb exo_tup) (ne_of_none hb new)).trans hb
    · exact fun b o v hb => (look (at_ne e hb exo_frz) (ne_of_none hb new)).trans hb
    · exact fun b ps hb => ⟨#[], by rw [look (at_ne e hb exo_tbl) (ne_of_none hb new), hb]; simp⟩
  refine q s.heap.objs.size _ new apart (I.un (t' := tk) un fun b o hb => ?_)
  by_cases za : b = a
  · subst za
    rw [upd_same] at hb
    cases hb
    exact exo_ok here
  by_cases zn : b = s.heap.objs.size
  · subst zn
    rw [upd_ne za, upd_same] at hb
    cases hb
    exact exd_ok dict (relO_put (fs := []) ry fun _ => True.intro)
  rw [look za zn] at hb
  refine (I.hok b o hb).stay (fun c v hc was => rest c v (hc.elim (fun z => z ▸ za) fun z => at_ne e z exo_own) was) (fun c hc => ?_) (fun c xs hc => ?_)
  · exact (look (at_ne e hc exo_own) (ne_of_none hc new)).trans hc
  · exact (look (at_ne e hc exo_tup) (ne_of_none hc new)).trans hc
/-- self.f = y, a further field -/
theorem own_more {fs : List (Str × V)} (T : OwnE X.K C B newId initId bmB) (I : Inv X pins σ H s) (e : H a = some (exo a C (some dx))) (ed : H dx = some (exd dx fs)) (hl : fs.length ≤ 900) (ht : PySem.W.takerIn X.K C f = some none) (ry : RelV y u)
    (q : ∀ s', Inv X pins σ (upd H dx (exd dx ((f, y) :: fs))) s' → Q () s') : wpAny (model X.prog X.w) A (setAttr (.ref a) f u) Q E s := by
  obtain ⟨t1, ho⟩ := exo_at I.hok e
  obtain ⟨mA, ns, rel⟩ := exd_at I.hok ed
  obtain ⟨cd, hc, hdict⟩ := PySem.W.any_some T.hd
  obtain ⟨oD, _, _, hoD, _, _⟩ := ns.count (within_of rel)
  refine PySem.W.set_plain (od := some oD) I.kIn ⟨ho, rfl, rfl, hoD⟩ T.sa ?_
  refine PySem.W.osa_openX (od := some oD) T.st I.kIn ⟨ho, rfl, rfl, hoD⟩ T.ov ht fun b => ?_
  refine wpAny_bind (wpAny_pure (wpAny_bind (wpAny_bind (wpAny_loadPart ho (wpAny_bind ((PySem.W.looks_clsIn I.kIn hc).at ?_))))))
  rw [hdict]
  refine wpAny_pure (a := some dx) ?_
  refine PySem.OEX.store_in_old ns (within_of rel) (by rw [List.length_map]; omega) fun g tk dict only => ?_
  have there : ∃ o, g.get? dx = some o := by
    obtain ⟨o, _, _, ho', _⟩ := dict
    exact ⟨o, ho'⟩
  exact q _ (I.write (t' := tk) (x := dx) (e := dx) (o := exd dx ((f, y) :: fs)) (by rw [ed]; exact True.intro) (.inl rfl) (fun b o nb was => (only.2 b nb).trans was) there (exd_ok dict (relO_put ry rel)))
end
/-- self.f = e in such a class -/
def tStO (K : PySem.W.Frag) (f : Str) (to te : TE) : TS := fun D σ H => te σ H fun y H1 => to σ H1 fun x H2 => ∃ (a C : Addr) (B newId initId : String) (bmB : List Value), x = .ref a ∧ OwnE K C B newId initId bmB ∧ PySem.W.takerIn K C f = some none ∧
  ((H2 a = some (exo a C none) ∧ ∀ dx, H2 dx = none → dx ≠ a → D.nx σ (upd (upd H2 dx (exd dx [(f, y)])) a (exo a C (some dx)))) ∨
    ∃ (dx : Addr) (fs : List (Str × V)), H2 a = some (exo a C (some dx)) ∧ H2 dx = some (exd dx fs) ∧ fs.length ≤ 900 ∧ D.nx σ (upd H2 dx (exd dx ((f, y) :: fs))))
theorem ps_stO {X : Cx} {o e : Expr} {to te : TE} {f : Str} {p pos : Pos} (ho : PE X o to) (he : PE X e te) (hs : swapsWith e (some (.Attribute o f p)) pos.line X.env = pure false := by rfl) : PS X (.Assign [.Attribute o f p] e pos) (tStO X.K f to te) :=
  ⟨fun pins s σ H D I h => plainObj_wpAny_Assign_Attribute (thn (he.run pins s σ H _ I h) fun v s1 ⟨y, H1, I1, r1, q1⟩ => thn (ho.run pins s1 σ H1 _ I1 q1) fun u s2 ⟨x, H2, I2, r2, a, C, _, _, _, _, ex, T, ht, q⟩ => by
    subst ex
    obtain rfl : u = Value.ref a := r2
    rcases q with ⟨ea, q⟩ | ⟨dx, fs, ea, ed, hl, q⟩
    · exact own_first T I2 ea ht r1 fun dx s' n1 n2 J => ⟨σ, _, J, q dx n1 n2⟩
    · exact own_more T I2 ea ed hl ht r1 fun s' J => ⟨σ, _, J, q⟩) hs⟩
/-- C(e, ..) of such a class, kept as a value -/
def tMkV (C : Addr) (sp : Sp) (ta : TA) : TE := fun σ H Q => ta σ H fun vs H1 => vs.length ≤ 1000 ∧ ∀ a, H1 a = none → sp (.ref a :: vs) (upd H1 a (exo a C none)) (fun v H2 => v = .non ∧ Q (.ref a) H2) E0
theorem pe_mkV {X : Cx} {x : Str} {C fI : Addr} {k : Nat} {fd : FuncData} {ps : List Str} {sp : Sp} {B newId initId : String} {bmB : List Value} {e : Expr} {es : List Expr} {ta : TA} {p pos : Pos} (T : OwnE X.K C B newId initId bmB)
    (iC : PySem.W.findIn X.K (.ref C) "__init__" = some (some (.ref fI))) (tI : PySem.W.typeIn X.K (.ref fI) = some (.type "function")) (F1 : FnOk X.prog X.w X.K X.mg X.base CX0 k fI fd ps sp) (hr : Room (k + 1) X.A) (hb : Binds X.K fd ps [])
    (hg : Gl X x) (hm : X.mg x = some (.ref C)) (ha : PA X (e :: es) ta) (hdb : (x == ("__debug__" : Str)) = false := by decide) (he : starEach (e :: es) X.env = (false, eval e X.env) :: starEach es X.env := by rfl) (hpl : (backTo pos (starEach es X.env)).any (·.1) = false := by rfl) :
    PE X (.Call (.Name x p) (e :: es) [] pos) (tMkV C sp ta) := ⟨fun pins s σ H Q I h => by
  refine wpAny_Call_Name_kw (ld_glob I hg hm ?_ hdb)
  refine PySem.W.callWith_K (h₀ := X.base) I.ok.mod.kin T.kC (thn (ha.run pos pins s σ H _ I h) fun us s1 ⟨vs, H1, I1, rel, few, go⟩ => ⟨I1.kIn, ?_⟩) he hpl
  show wpAny _ _ (call (.ref C) us) _ _ _
  obtain ⟨nm, N, qn, bs, bm, hdct, sn, sub, ab, col, dd, k0, k1, k2, k3, k5, hC, hT⟩ := PySem.W.excInit_of I1.kIn T.made
  obtain ⟨hp, g, d, tk, os⟩ := s1
  have late : hp.objs.size ≤ hp.objs.size + 1 := Nat.le_succ _
  have start := go (hp.objs.size + 1) (I1.hok.fresh late)
  have got : ((hp.push (PySem.W.kdv_tup us)).push (PySem.HandSPX.excO C hp.objs.size)).get? (hp.objs.size + 1) = some (PySem.HandSPX.excO C hp.objs.size) := by heap_get
  have I2 : Inv X pins σ (upd H1 (hp.objs.size + 1) (exo (hp.objs.size + 1) C none)) ⟨(hp.push (PySem.W.kdv_tup us)).push (PySem.HandSPX.excO C hp.objs.size), g, d, tk, os⟩ :=
    I1.laid (t' := tk) (h' := (hp.push (PySem.W.kdv_tup us)).push (PySem.HandSPX.excO C hp.objs.size)) (fun b o was => Heap.get?_push_of_some _ (Heap.get?_push_of_some _ was)) late (exo_ok got)
  have rel2 : Vals (V.ref (hp.objs.size + 1) :: vs) (Value.ref (hp.objs.size + 1) :: us) := .cons rfl rel
  have count : (Value.ref (hp.objs.size + 1) :: us).length = ps.length := rel2.length.symm.trans (F1.len _ _ _ _ start)
  have few2 : us.length ≤ sizeLine := by rw [← rel.length]; exact Nat.le_trans few (by decide)
  have binds := hb _ (Value.ref (hp.objs.size + 1) :: us) I2.kIn (by rw [List.append_nil]; exact count)
  rw [List.append_nil] at binds
  refine wpAny_call (PySem.HandSPX.call_own T.base hT hC (PySem.W.looks_findIn I1.kIn iC) (fun self => PySem.W.bind_fn I1.kIn self tI) few2
    (codeAny_mono (F1.run _ X.stack _ _ ⟨_, []⟩ (Value.ref (hp.objs.size + 1) :: us) _ _ E0 (hr.make C us []) (I2.env0.make C us []) binds rel2 start) fun r s' back => ?_))
  cases r with
  | error er => exact pass0 pins σ _ _ er s' I2 back
  | ok fl =>
    cases fl with
    | ret u =>
      obtain ⟨v, H2, I3, rv, ev, q⟩ := I2.after back
      subst ev
      exact ⟨rv, V.ref (hp.objs.size + 1), H2, I3, rfl, q⟩
    | next => exact False.elim back
    | brk => exact False.elim back
    | cont => exact False.elim back⟩
/-! ### such a value's field, and what kind it is of -/
/-- e.f -/
def tFldO (K : PySem.W.Frag) (f : Str) (te : TE) : TE := fun σ H Q => te σ H fun x H1 => ∃ (a C dx : Addr) (fs : List (Str × V)) (v : V), x = .ref a ∧ ExcC K C ∧ PySem.W.findIn K (.ref C) f = some none ∧ H1 a = some (exo a C (some dx)) ∧ H1 dx = some (exd dx fs) ∧ fs.lookup f = some v ∧ Q v H1
theorem pe_fldO {X : Cx} {e : Expr} {te : TE} {f : Str} {pos : Pos} (he : PE X e te) (hb : attributeBase e f X.env (eval e X.env) = eval e X.env := by rfl) : PE X (.Attribute e f pos) (tFldO X.K f te) := ⟨fun pins s σ H Q I h => by
  refine attr_of hb (thn (he.run pins s σ H _ I h) fun u s1 ⟨x, H1, I1, rx, a, C, dx, fs, v, ex, T, no, ea, ed, hl, q⟩ => ?_)
  subst ex
  obtain rfl : u = Value.ref a := rx
  obtain ⟨t1, ho⟩ := exo_at I1.hok ea
  obtain ⟨mA, ns, rel⟩ := exd_at I1.hok ed
  obtain ⟨oD, hoD, look⟩ := lookIn_ns ns
  obtain ⟨u, hu, ru⟩ := RelO.some_of (v := v) (o := mA f) (by rw [← hl]; exact rel f)
  have J : PySem.W.InstAt s1.heap a _ C (some oD) := ⟨ho, rfl, rfl, hoD⟩
  exact HandSPX.exc_get I1.kIn J T.hg T.hk T.hs (PySem.W.findObj_own T.hd no rfl (by rw [look, hu])) (handed_of ru) ⟨v, H1, I1.tok _, ru, q⟩⟩
/-- isinstance(e, c) of such a value -/
def rIsO (K : PySem.W.Frag) : List V → Hp → VK → Prop := fun xs H Q => ∃ (a C dx : Addr) (fs : List (Str × V)) (c : V) (cv : Value) (b : Bool), xs = [.ref a, c] ∧ ExcC K C ∧ H a = some (exo a C (some dx)) ∧ H dx = some (exd dx fs) ∧ (∀ u, RelV c u → u = cv) ∧ PySem.W.kitOne K (.ref C) cv = some b ∧ Q (.bl b) H
theorem call_isO {X : Cx} : CallR X (.builtin "isinstance") (rIsO X.K) := by
  intro pins s σ H xs us Q I r h
  obtain ⟨a, C, dx, fs, c, cv, b, rfl, T, ea, ed, hcv, hk, q⟩ := h
  obtain ⟨u1, u2, rfl, r1, r2⟩ := vals2 r
  obtain rfl : u1 = Value.ref a := r1
  have e2 := hcv _ r2
  subst e2
  obtain ⟨t1, ho⟩ := exo_at I.hok ea
  obtain ⟨mA, ns, rel⟩ := exd_at I.hok ed
  obtain ⟨oD, hoD, look⟩ := lookIn_ns ns
  obtain ⟨cd, hc, _⟩ := PySem.W.any_some T.hd
  have J : PySem.W.InstAt s.heap a _ C (some oD) := ⟨ho, rfl, rfl, hoD⟩
  exact PySem.W.kia_one (PySem.W.kitx_exc (by rw [hc]; rfl) T.hg T.hk T.hs T.ha T.hn T.ht T.hm) I.kIn J hk (fun z => nomatch z) fun tk => ⟨.bl b, H, I.kept (t' := tk) fun _ _ z => z, rfl, q⟩
/-! ### own errors without an __init__ of their own, without arguments -/
theorem pe_mk0 {X : Cx} {x : Str} {C : Addr} {B newId initId : String} {bmB : List Value} {p pos : Pos} (F : ExcBaseFacts B newId initId bmB) (made : PySem.W.excInitIn X.K C bmB newId = true) (kC : PySem.W.keepIn X.K (.ref C) = true)
    (iC : PySem.W.findIn X.K (.ref C) "__init__" = some (some (.builtin initId))) (hg : Gl X x) (hm : X.mg x = some (.ref C)) (hdb : (x == ("__debug__" : Str)) = false := by decide) :
    PE X (.Call (.Name x p) [] [] pos) (fun _ H Q => ∀ a, H a = none → Q (.ref a) (upd H a (exo a C none))) := ⟨fun pins s σ H Q I h => by
  refine wpAny_Call_Name_kw (ld_glob I hg hm ?_ hdb)
  refine PySem.W.callWith_K0 I.kIn kC ?_
  show wpAny _ _ (call (.ref C) []) _ _ _
  obtain ⟨nm, N, qn, bs, bm, hdct, sn, sub, ab, col, dd, k0, k1, k2, k3, k5, hC, hT⟩ := PySem.W.excInit_of I.kIn made
  obtain ⟨hp, g, d, tk, os⟩ := s
  refine PySem.W.call_B F hT hC (PySem.W.looks_findIn I.kIn iC) (Nat.zero_le _) fun h2 kept got _ => ?_
  have late : hp.objs.size ≤ hp.objs.size + 1 := Nat.le_succ _
  exact ⟨.ref (hp.objs.size + 1), _, I.laid (t' := tk) (h' := h2) kept late (exo_ok got), rfl, h _ (I.hok.fresh late)⟩⟩
/-- isinstance(e, c), e without a field -/
def rIsO0 (K : PySem.W.Frag) : List V → Hp → VK → Prop := fun xs H Q => ∃ (a C : Addr) (c : V) (cv : Value) (b : Bool), xs = [.ref a, c] ∧ ExcC K C ∧ H a = some (exo a C none) ∧ (∀ u, RelV c u → u = cv) ∧ PySem.W.kitOne K (.ref C) cv = some b ∧ Q (.bl b) H
theorem call_isO0 {X : Cx} : CallR X (.builtin "isinstance") (rIsO0 X.K) := by
  intro pins s σ H xs us Q I r h
  obtain ⟨a, C, c, cv, b, rfl, T, ea, hcv, hk, q⟩ := h
  obtain ⟨u1, u2, rfl, r1, r2⟩ := vals2 r
  obtain rfl : u1 = Value.ref a := r1
  have e2 := hcv _ r2
  subst e2
  obtain ⟨t1, ho⟩ := exo_at I.hok ea
  obtain ⟨cd, hc, _⟩ := PySem.W.any_some T.hd
  have J : PySem.W.InstAt s.heap a _ C none := ⟨ho, rfl, rfl, trivial⟩
  exact PySem.W.kia_one (PySem.W.kitx_exc (by rw [hc]; rfl) T.hg T.hk T.hs T.ha T.hn T.ht T.hm) I.kIn J hk (fun z => nomatch z) fun tk => ⟨.bl b, H, I.kept (t' := tk) fun _ _ z => z, rfl, q⟩
/-- either kind -/
def rIsOw (K : PySem.W.Frag) : List V → Hp → VK → Prop := fun xs H Q => rIsO K xs H Q ∨ rIsO0 K xs H Q
theorem call_isOw {X : Cx} : CallR X (.builtin "isinstance") (rIsOw X.K) := fun pins s σ H xs us Q I r h => h.elim (call_isO pins s σ H xs us Q I r) (call_isO0 pins s σ H xs us Q I r)
/-- isinstance(e, (S, T)) -/
def rIsOT (K : PySem.W.Frag) : List V → Hp → VK → Prop := fun xs H Q => ∃ (a C tp : Addr) (od : Option Addr) (S T : String) (b : Bool), xs = [.ref a, .ref tp] ∧ ExcC K C ∧ H a = some (exo a C od) ∧ (∀ dx, od = some dx → ∃ fs, H dx = some (exd dx fs)) ∧
  H tp = some (.tup [.ty S, .ty T]) ∧ PySem.W.kitAny K (.ref C) [.type S, .type T] = some b ∧ Q (.bl b) H
theorem call_isOT {X : Cx} : CallR X (.builtin "isinstance") (rIsOT X.K) := by
  intro pins s σ H xs us Q I r h
  obtain ⟨a, C, tp, od, S, T, b, rfl, F, ea, ed, et, hk, q⟩ := h
  obtain ⟨u1, u2, rfl, r1, r2⟩ := vals2 r
  obtain rfl : u1 = Value.ref a := r1
  obtain rfl : u2 = Value.ref tp := r2
  obtain ⟨t1, ho⟩ := exo_at I.hok ea
  obtain ⟨cd, hc, _⟩ := PySem.W.any_some F.hd
  obtain ⟨_, raw, rel, o, hp, hcls, n, hdat⟩ := I.hok _ _ et
  obtain ⟨v1, v2, rfl, e1, e2⟩ := vals2 rel
  obtain rfl : v1 = Value.type S := e1
  obtain rfl : v2 = Value.type T := e2
  obtain ⟨cls, dd, data, sl⟩ := o
  simp only at hcls hdat
  subst hcls hdat
  have fin : ∀ tk, EP X pins σ Q (.bool b) { s with toks := tk } := fun tk => ⟨.bl b, H, I.kept (t' := tk) fun _ _ z => z, rfl, q⟩
  cases od with
  | none =>
    have J : PySem.W.InstAt s.heap a _ C none := ⟨ho, rfl, rfl, trivial⟩
    exact PySem.W.kia_tup (its := [.type S, .type T]) (PySem.W.kitx_exc (by rw [hc]; rfl) F.hg F.hk F.hs F.ha F.hn F.ht F.hm) I.kIn J hp hk (fun z => nomatch z) fin
  | some dx =>
    obtain ⟨fs, ed⟩ := ed dx rfl
    obtain ⟨mA, ns, _⟩ := exd_at I.hok ed
    obtain ⟨oD, hoD, _⟩ := lookIn_ns ns
    have J : PySem.W.InstAt s.heap a _ C (some oD) := ⟨ho, rfl, rfl, hoD⟩
    exact PySem.W.kia_tup (its := [.type S, .type T]) (PySem.W.kitx_exc (by rw [hc]; rfl) F.hg F.hk F.hs F.ha F.hn F.ht F.hm) I.kIn J hp hk (fun z => nomatch z) fin
end DL

namespace DL
open PySem PySem.Spec PySem.HandSPX PySem.Calls
section
variable {prog : Program} {w : World} {A : Around} {E : Value → Shared → Prop} {R : Result → Shared → Prop} {h : Heap} {g : Array GenState} {d : Drawn} {t : Nat} {os : OsState}
variable {nm q : Str} {C N : Addr} {bs bm bmB : List Value} {hdct : Bool} {sn : List Str} {sub : List Value} {ab : Bool} {col : Option Bool} {dd : Option Addr} {k0 k1 k2 k3 k5 : Option Value} {B newId initId : String} {u1 u2 : Value}
/-- an own error is made with two names alone: what is asked of the call -/
theorem kw_check (F : ExcBaseFacts B newId initId bmB) (hT : ∀ X : String, bm.contains (.type X) = bmB.contains (.type X)) {Q : Unit → Shared → Prop}
    (hC : h.get? C = some (excClassObj nm q C N bs bm hdct sn sub ab col dd k0 k1 k2 k3 k5 newId)) (hq : Q () ⟨h, g, d, t, os⟩) : wpAny (model prog w) A (checkBuiltinCall newId ⟨[.ref C], [("other", u1), ("one", u2)]⟩) Q E ⟨h, g, d, t, os⟩ := by
  have own : (Value.ref C :: bm).contains (.type B) = true := by rw [List.contains_cons, hT, F.hasB, Bool.or_true]
  have star := F.noStar
  simp only [checkBuiltinCall, F.newKind, F.newSplit, F.newRow]
  repeat (first | refine wpAny_loadPart_at hC ?_ | (refine wpAny_isSubtype_exc hC ?_; rw [own]) | refine wpAny_staticBase_exc hC ?_ | refine wpAny_madeBy_exc hC ?_ | simp only [bne_self_eq_false, Bool.false_eq_true, if_false] | wp_step)
  exact hq
/-- the object is made: the names are not kept -/
theorem kw_new (F : ExcBaseFacts B newId initId bmB) (hT : ∀ X : String, bm.contains (.type X) = bmB.contains (.type X))
    (hC : h.get? C = some (excClassObj nm q C N bs bm hdct sn sub ab col dd k0 k1 k2 k3 k5 newId))
    (hq : R (.ok (.ret (.ref (h.objs.size + 1)))) ⟨(h.push (W.kdv_tup [])).push (excO C h.objs.size), g, d, t, os⟩) : codeAny (model prog w) A (.builtin newId ⟨[.ref C], [("other", u1), ("one", u2)]⟩) R ⟨h, g, d, t, os⟩ := by
  have e1 := F.ends
  have own : (Value.ref C :: bm).contains (.type B) = true := by rw [List.contains_cons, hT, F.hasB, Bool.or_true]
  have noA : (Value.ref C :: bm).contains (.type "AttributeError") = false := by rw [List.contains_cons, hT, F.noAttr]; rfl
  have noN : (Value.ref C :: bm).contains (.type "NameError") = false := by rw [List.contains_cons, hT, F.noName]; rfl
  refine codeAny_builtinAt F.entry ?_
  unfold Builtin.«BaseException.__new__»
  refine wpAt_bind ?_
  show wpAt _ _ _ (stack >>= _) _ _ _
  refine wpAt_bind (wpAt_stack fun p below => wpAt_of_wpAny ?_)
  wp_walk
  refine wpAt_of_wpAny ?_
  rw [F.owner]
  repeat (first | with_reducible refine wpAny_madeHere_exc F.canon hC ?_ | with_reducible refine wpAny_loadPart_at hC ?_ | (with_reducible refine wpAny_isSubtype_exc hC ?_; first | rw [own] | rw [noA] | rw [noN]) | wp_step)
  show R _ _
  rw [Heap.size_push]
  exact hq
theorem kw_type (F : ExcBaseFacts B newId initId bmB) (hT : ∀ X : String, bm.contains (.type X) = bmB.contains (.type X)) {fI : Addr} {Q : Fin → Shared → Prop}
    (hC : h.get? C = some (excClassObj nm q C N bs bm hdct sn sub ab col dd k0 k1 k2 k3 k5 newId))
    (hi : W.Looks (model prog w) h (typeLookup (.ref C) "__init__") (some (.ref fI))) (hb : ∀ self, W.Looks (model prog w) h (bindSpecial (.ref fI) self) (.ref fI, [self]))
    (hq : codeAny (model prog w) A (.call (.ref fI) ⟨[.ref (h.objs.size + 1)], [("other", u1), ("one", u2)]⟩)
      (fun r s' => match r with | .ok (.ret v) => v = .none ∧ Q (.done (.ret (.ref (h.objs.size + 1)))) s' | .ok _ => False | .error e => E e s')
      ⟨(h.push (W.kdv_tup [])).push (excO C h.objs.size), g, d, t, os⟩) :
    wpAny (model prog w) A (Builtin.«type.__call__» ⟨[.ref C], [("other", u1), ("one", u2)]⟩) Q E ⟨h, g, d, t, os⟩ := by
  repeat (first | with_reducible refine wpAny_loadPart_at hC ?_ | with_reducible refine wpAny_madeBy_exc hC ?_ | wp_step)
  refine codeAny_call_builtin_code (Code.quiet_builtin _ F.quiet) (kw_check F hT hC ?_)
  refine kw_new F hT hC ?_
  show wpAny _ _ _ _ _ _
  have k : ∀ b o, h.get? b = some o → ((h.push (W.kdv_tup [])).push (excO C h.objs.size)).get? b = some o := fun b o e => Heap.get?_push_of_some _ (Heap.get?_push_of_some _ e)
  have cls := k _ _ hC
  have got : ((h.push (W.kdv_tup [])).push (excO C h.objs.size)).get? (h.objs.size + 1) = some (excO C h.objs.size) := by heap_get
  have self : (Value.ref C :: bm).contains (.ref C) = true := by simp
  have i1 := hi.keeps k
  have b1 := (hb (.ref (h.objs.size + 1))).keeps k
  unfold isInstance
  repeat (first | with_reducible refine wpAny_loadPart_at got ?_ | (with_reducible refine wpAny_isSubtype_exc cls ?_; rw [self]) | wp_step)
  show wpAny _ _ (typeLookup (.ref C) _) _ _ _
  refine i1.at ?_
  refine wpAny_holding (wpAny_bind (b1.at ?_))
  refine wpAny_bind (wpAny_call (codeAny_mono hq fun r s' z => ?_))
  rcases r with e | (v | _ | _ | _) <;> first | exact z | exact z.elim | skip
  obtain ⟨rfl, z⟩ := z
  first
    | exact wpAny_pure (wpAny_pure z)
    | (wp_walk; exact z)
theorem kw_call (F : ExcBaseFacts B newId initId bmB) (hT : ∀ X : String, bm.contains (.type X) = bmB.contains (.type X)) {fI : Addr}
    (hC : h.get? C = some (excClassObj nm q C N bs bm hdct sn sub ab col dd k0 k1 k2 k3 k5 newId))
    (hi : W.Looks (model prog w) h (typeLookup (.ref C) "__init__") (some (.ref fI))) (hb : ∀ self, W.Looks (model prog w) h (bindSpecial (.ref fI) self) (.ref fI, [self]))
    (hq : codeAny (model prog w) (A.under (.builtin "type.__call__" ⟨[.ref C], [("other", u1), ("one", u2)]⟩)) (.call (.ref fI) ⟨[.ref (h.objs.size + 1)], [("other", u1), ("one", u2)]⟩) (W.InitBack (h.objs.size + 1) R)
      ⟨(h.push (W.kdv_tup [])).push (excO C h.objs.size), g, d, t, os⟩) :
    codeAny (model prog w) A (.call (.ref C) ⟨[], [("other", u1), ("one", u2)]⟩) R ⟨h, g, d, t, os⟩ := by
  have f1 := tc_lookup
  have f2 := tc_bind (.ref C)
  have isT : (⟨h, g, d, t, os⟩ : Shared).TypeIs (.ref C) "type" := ⟨_, hC, rfl⟩
  refine codeAny_of_tree ?_
  show wpAny _ _ (callAny (.ref C) _) _ _ _
  repeat (any_goals (first | assumption | with_reducible refine wpAny_loadPart_at hC ?_ | wp_step))
  refine ⟨rfl, ?_⟩
  refine codeAny_call_builtin_at (Code.quiet_builtin _ (by decide +kernel)) entry_typeCall (wpAny_check_type_call_sub hC (kw_type F hT hC hi hb ?_))
  refine codeAny_mono hq fun r s' z => ?_
  rcases r with e | (v | _ | _ | _) <;> exact z
end
end DL

namespace DL
open PySem PySem.Spec PyProof.Rows L2
open Evl (Ex)
open RZ
/-- C(other = .., one = ..), kept as a value -/
def tMkK (C : Addr) (sp : Sp) (tk : TA) : TE := fun σ H Q => tk σ H fun zs H1 => ∃ y1 y2, zs = [y1, y2] ∧ ∀ a, H1 a = none → sp [.ref a, y2, y1] (upd H1 a (exo a C none)) (fun v H2 => v = .non ∧ Q (.ref a) H2) E0
theorem pe_mkK {X : Cx} {x : Str} {C fI : Addr} {k : Nat} {fd : FuncData} {ps : List Str} {sp : Sp} {B newId initId : String} {bmB : List Value} {kws : List Keyword} {tk : TA} {p pos : Pos} (T : OwnE X.K C B newId initId bmB)
    (iC : PySem.W.findIn X.K (.ref C) "__init__" = some (some (.ref fI))) (tI : PySem.W.typeIn X.K (.ref fI) = some (.type "function")) (F1 : FnOk X.prog X.w X.K X.mg X.base CX0 k fI fd ps sp) (hr : Room (k + 1) X.A)
    (hb : ∀ (s : Shared) (me w1 w2 : Value), BindsTo s fd ⟨[me], [("other", w1), ("one", w2)]⟩ (ps.zip [me, w2, w1]))
    (hg : Gl X x) (hm : X.mg x = some (.ref C)) (hkw : PK X kws tk) (hall : (backToKw pos (keywordEach kws X.env)).all (·.1.isSome) = true := by rfl) (hks : (backToKw pos (keywordEach kws X.env)).filterMap (·.1) = (["other", "one"] : List Str) := by rfl)
    (hdb : (x == ("__debug__" : Str)) = false := by decide) (hpl : ((backTo pos (starEach [] X.env)).any (·.1) || (backToKw pos (keywordEach kws X.env)).any (·.1.isNone)) = false := by rfl) :
    PE X (.Call (.Name x p) [] kws pos) (tMkK C sp tk) := ⟨fun pins s σ H Q I h => by
  refine wpAny_Call_Name_kw (ld_glob I hg hm ?_ hdb)
  refine PySem.W.callWith_KW0 (h₀ := X.base) I.ok.mod.kin T.kC hall (thn (hkw.run pos pins s σ H _ I h) fun ws s1 ⟨zs, H1, I1, rel, y1, y2, ez, go⟩ => ⟨I1.kIn, ?_⟩) hpl
  subst ez
  rw [hks]
  obtain ⟨w1, w2, rfl, r1, r2⟩ := vals2 rel
  show wpAny _ _ (call (.ref C) [] [("other", w1), ("one", w2)]) _ _ _
  obtain ⟨nm, N, qn, bs, bm, hdct, sn, sub, ab, col, dd, k0, k1, k2, k3, k5, hC, hT⟩ := PySem.W.excInit_of I1.kIn T.made
  obtain ⟨hp, g, d, t, os⟩ := s1
  have late : hp.objs.size ≤ hp.objs.size + 1 := Nat.le_succ _
  have start := go (hp.objs.size + 1) (I1.hok.fresh late)
  have got : ((hp.push (PySem.W.kdv_tup [])).push (PySem.HandSPX.excO C hp.objs.size)).get? (hp.objs.size + 1) = some (PySem.HandSPX.excO C hp.objs.size) := by heap_get
  have I2 : Inv X pins σ (upd H1 (hp.objs.size + 1) (exo (hp.objs.size + 1) C none)) ⟨(hp.push (PySem.W.kdv_tup [])).push (PySem.HandSPX.excO C hp.objs.size), g, d, t, os⟩ :=
    I1.laid (t' := t) (h' := (hp.push (PySem.W.kdv_tup [])).push (PySem.HandSPX.excO C hp.objs.size)) (fun b o was => Heap.get?_push_of_some _ (Heap.get?_push_of_some _ was)) late (exo_ok got)
  have rel2 : Vals [V.ref (hp.objs.size + 1), y2, y1] [Value.ref (hp.objs.size + 1), w2, w1] := .cons rfl (.cons r2 (.cons r1 .nil))
  refine wpAny_call (kw_call T.base hT hC (PySem.W.looks_findIn I1.kIn iC) (fun self => PySem.W.bind_fn I1.kIn self tI)
    (codeAny_mono (F1.run _ X.stack _ _ ⟨_, _⟩ [Value.ref (hp.objs.size + 1), w2, w1] _ _ E0 (hr.make C [] [("other", w1), ("one", w2)]) (I2.env0.make C [] [("other", w1), ("one", w2)]) (hb _ _ w1 w2) rel2 start) fun r s' back => ?_))
  cases r with
  | error er => exact pass0 pins σ _ _ er s' I2 back
  | ok fl =>
    cases fl with
    | ret u =>
      obtain ⟨v, H2, I3, rv, ev, q⟩ := I2.after back
      subst ev
      exact ⟨rv, V.ref (hp.objs.size + 1), H2, I3, rfl, q⟩
    | next => exact False.elim back
    | brk => exact False.elim back
    | cont => exact False.elim back⟩
/-! ### the __init__ of such a class -/
/-- self.f = y, one field -/
def spI1 (K : PySem.W.Frag) (f : Str) : Sp := fun vs H Q _ => ∃ (a C : Addr) (B newId initId : String) (bmB : List Value) (y : V), vs = [.ref a, y] ∧ OwnE K C B newId initId bmB ∧ PySem.W.takerIn K C f = some none ∧ H a = some (exo a C none) ∧
  ∀ dx, H dx = none → dx ≠ a → Q .non (upd (upd H dx (exd dx [(f, y)])) a (exo a C (some dx)))
/-- two of them -/
def spI2 (K : PySem.W.Frag) (f g : Str) : Sp := fun vs H Q _ => ∃ (a C : Addr) (B newId initId : String) (bmB : List Value) (y z : V), vs = [.ref a, y, z] ∧ OwnE K C B newId initId bmB ∧ PySem.W.takerIn K C f = some none ∧ PySem.W.takerIn K C g = some none ∧ H a = some (exo a C none) ∧
  ∀ dx, H dx = none → dx ≠ a → Q .non (upd (upd (upd H dx (exd dx [(f, y)])) a (exo a C (some dx))) dx (exd dx [(g, z), (f, y)]))
/-! ### C(y).f, C(other = .., one = ..).f, y data -/
section
variable {K : PySem.W.Frag} {Γ : List G} {ta tb : TE} {x y : PyData} {C : Addr} {B newId initId : String} {bmB : List Value} {f g : Str}
theorem upd_swap {H : Hp} {a b : Addr} {o u v : HO} (h : b ≠ a) : (upd (upd (upd H a o) b u) a v) b = some u := by rw [upd_ne h, upd_same]
theorem ed_mkfld (T : OwnE K C B newId initId bmB) (F : ExcC K C) (ht : PySem.W.takerIn K C f = some none) (no : PySem.W.findIn K (.ref C) f = some none) (h : ED K ta Γ y) : ED K (tFldO K f (tMkV C (spI1 K f) (tCons ta tNil))) Γ y := fun _ _ σ Hd H e Q q =>
  h _ _ σ Hd H e _ fun v Hd1 H1 x1 d1 => ⟨(by show 1 ≤ 1000; decide), fun a ha => ⟨a, C, B, newId, initId, bmB, v, rfl, T, ht, upd_same, fun dx hdx ne => by
    have h1 : H1 dx = none := by rw [upd_ne ne] at hdx; exact hdx
    have n1 := Evl.fresh_back x1.i ha
    have n2 := Evl.fresh_back x1.i h1
    refine ⟨rfl, a, C, dx, [(f, v)], v, rfl, F, no, upd_same, upd_swap ne, ?_, q v Hd1 _ (((x1.mut (Evl.fresh_back x1.h ha) n1).mut (Evl.fresh_back x1.h h1) n2).mut (Evl.fresh_back x1.h ha) n1) d1⟩
    simp [List.lookup]⟩⟩
theorem two_fields {H1 Hd1 Hd H : Hp} {a dx : Addr} {v w : V} {Q : VK} {fld : Str} {u : V} {z : PyData} (x1 : Ext Hd H Hd1 H1) (ha : H1 a = none) (h1 : H1 dx = none) (ne : dx ≠ a) (F : ExcC K C) (no : PySem.W.findIn K (.ref C) fld = some none) (hl : List.lookup fld [(g, w), (f, v)] = some u) (dz : Dt K Hd1 u z)
    (q : ∀ v Hd' H', Ext Hd H Hd' H' → Dt K Hd' v z → Q v H') : ∃ (a' C' dx' : Addr) (fs : List (Str × V)) (u' : V), (V.ref a) = .ref a' ∧ ExcC K C' ∧ PySem.W.findIn K (.ref C') fld = some none ∧ (upd (upd (upd (upd H1 a (exo a C none)) dx (exd dx [(f, v)])) a (exo a C (some dx))) dx (exd dx [(g, w), (f, v)])) a' = some (exo a' C' (some dx')) ∧
      (upd (upd (upd (upd H1 a (exo a C none)) dx (exd dx [(f, v)])) a (exo a C (some dx))) dx (exd dx [(g, w), (f, v)])) dx' = some (exd dx' fs) ∧ fs.lookup fld = some u' ∧ Q u' (upd (upd (upd (upd H1 a (exo a C none)) dx (exd dx [(f, v)])) a (exo a C (some dx))) dx (exd dx [(g, w), (f, v)])) := by
  have n1 := Evl.fresh_back x1.i ha
  have n2 := Evl.fresh_back x1.i h1
  have m1 := Evl.fresh_back x1.h ha
  have m2 := Evl.fresh_back x1.h h1
  exact ⟨a, C, dx, _, u, rfl, F, no, by rw [upd_ne ne.symm, upd_same], upd_same, hl, q u Hd1 _ ((((x1.mut m1 n1).mut m2 n2).mut m1 n1).mut m2 n2) dz⟩
/-- C(y, z).f, the first of two fields -/
theorem ed_mkfldA (T : OwnE K C B newId initId bmB) (F : ExcC K C) (ht : PySem.W.takerIn K C f = some none) (hu : PySem.W.takerIn K C g = some none) (no : PySem.W.findIn K (.ref C) f = some none) (fg : (f == g) = false) (h : ED K ta Γ x) (h2 : ED K tb Γ y) : ED K (tFldO K f (tMkV C (spI2 K f g) (tCons ta (tCons tb tNil)))) Γ x := fun _ _ σ Hd H e Q q =>
  h _ _ σ Hd H e _ fun v Hd1 H1 x1 d1 => h2 _ _ σ Hd1 H1 (e.ext x1) _ fun w Hd2 H2 x2 d2 => ⟨(by show 2 ≤ 1000; decide), fun a ha => ⟨a, C, B, newId, initId, bmB, v, w, rfl, T, ht, hu, upd_same, fun dx hdx ne => ⟨rfl, by
    have h1 : H2 dx = none := by rw [upd_ne ne] at hdx; exact hdx
    exact two_fields (x1.trans x2) ha h1 ne F no (by simp [List.lookup, fg]) (d1.mono x2.d) q⟩⟩⟩
/-- C(g = x, f = y).g, by names -/
theorem ed_mkfldK (T : OwnE K C B newId initId bmB) (F : ExcC K C) (ht : PySem.W.takerIn K C f = some none) (hu : PySem.W.takerIn K C g = some none) (no : PySem.W.findIn K (.ref C) g = some none) (h : ED K ta Γ x) (h2 : ED K tb Γ y) : ED K (tFldO K g (tMkK C (spI2 K f g) (tCons ta (tCons tb tNil)))) Γ x := fun _ _ σ Hd H e Q q =>
  h _ _ σ Hd H e _ fun v Hd1 H1 x1 d1 => h2 _ _ σ Hd1 H1 (e.ext x1) _ fun w Hd2 H2 x2 d2 => ⟨v, w, rfl, fun a ha => ⟨a, C, B, newId, initId, bmB, w, v, rfl, T, ht, hu, upd_same, fun dx hdx ne => ⟨rfl, by
    have h1 : H2 dx = none := by rw [upd_ne ne] at hdx; exact hdx
    exact two_fields (x1.trans x2) ha h1 ne F no (by simp [List.lookup]) (d1.mono x2.d) q⟩⟩⟩
end
end DL

namespace Law
open PySem PySem.Spec PyProof.Rows L2 DL
open Evl (Ex)
open RZ
def topS (i : Nat) : Stmt := PySem.Challenge.pw_oldornew_k06_errors_by_themselves.main.body.getD i (.Pass ⟨0, 0, 0, 0⟩)
structure Bt (mg : Str → Option Value) : Prop where
  len : mg "len" = none
  abs : mg "abs" = none
  int : mg "int" = none
  list : mg "list" = none
  tuple : mg "tuple" = none
  dict : mg "dict" = none
  bool : mg "bool" = none
  str : mg "str" = none
  range : mg "range" = none
  zip : mg "zip" = none
  enumerate : mg "enumerate" = none
  all : mg "all" = none
  isinstance : mg "isinstance" = none
  sorted : mg "sorted" = none
  min : mg "min" = none
  lookupError : mg "LookupError" = none
  keyError : mg "KeyError" = none
  indexError : mg "IndexError" = none
  valueError : mg "ValueError" = none
section
variable {P : Program} {w : World} {K : PySem.W.Frag} {mg : Str → Option Value} {base : Heap}
abbrev s_L_take : Stmt := topS 11
theorem sc_L_take : FnScope ["_law_tin", "_law_top_so", "_law_once", "_law_far", "_law_twice", "_law_digit_so"] ["_law_tin", "_law_top_so"] (defScope s_L_take) := ⟨rfl, rfl, rfl, by decide +kernel, rfl, by decide +kernel, by decide +kernel⟩
theorem ok_take (X : Tx K mg "_law_take" ["_law_tin", "_law_top_so"] s_L_take) (T : Bt mg) : Df P w K mg base 1 "_law_take" ["_law_tin", "_law_top_so"] spTake := by
  refine X.ok sc_L_take (fun vs H Q E h => ?_) (fun f cdv A outer s H vs Q E hr h => ?_)
  · obtain ⟨p, top, c, o, rfl, _⟩ := h
    rfl
  · obtain ⟨p, top, c, o, rfl, h1, h2, hp, ⟨g, m, k, rfl, b1, b2, b3, b4, b5⟩, hc, q⟩ := h
    refine ⟨_, (pss_cons (ps_if (pt_cmpR op_gt (pe_ix (ixS K) (pv 0) pe_int (fun _ _ => rfl)) pe_int (nomark _)) (pss_cons (ps_set (i := 5) sc_L_take.nd rfl (Or.inl rfl) (pe_op op_mod (pe_callTy call_int1 (by rfl) T.int boot_int (pa_cons (pe_ix (ixS K) (pv 0) pe_int (fun _ _ => rfl)) pa_nil)) (pv 1))) (pss_cons (ps_asg (pe_op op_fdivN (pe_ix (ixS K) (pv 0) pe_int (fun _ _ => rfl)) (pv 1)) (pg_sub (pv 0) pe_int set_list)) (pss_one (ps_ret (pv 5))))) pss_nil) (pss_cons (ps_asg (pe_op op_add (pe_ix (ixS K) (pv 0) pe_int (fun _ _ => rfl)) pe_int) (pg_sub (pv 0) pe_int set_list)) (pss_cons (ps_set (i := 2) sc_L_take.nd rfl (Or.inl rfl) (pe_op op_mod (pe_callTy call_int1 (by rfl) T.int boot_int (pa_cons (pe_op op_mul (pe_op op_add (pe_ix (ixS K) (pv 0) pe_int (fun _ _ => rfl)) (pe_op op_mul pe_int (pe_ix (ixS K) (pv 0) pe_int (fun _ _ => rfl)))) (pe_op op_add pe_int (pe_ix (ixS K) (pv 0) pe_int (fun _ _ => rfl)))) pa_nil)) pe_int)) (pss_cons (ps_set (i := 3) sc_L_take.nd rfl (Or.inl rfl) (pe_op op_add (pe_op op_mod (pe_callTy call_int1 (by rfl) T.int boot_int (pa_cons (pv 2) pa_nil)) pe_int) pe_int)) (pss_cons (ps_set (i := 4) sc_L_take.nd rfl (Or.inl rfl) (pe_op op_mod (pe_callTy call_int1 (by rfl) T.int boot_int (pa_cons (pe_op op_mul (pe_op op_add (pe_op op_add (pv 2) (pe_ix (ixS K) (pv 0) pe_int (fun _ _ => rfl))) (pe_op op_fdivN (pe_ix (ixS K) (pv 0) pe_int (fun _ _ => rfl)) pe_int)) (pv 3)) pa_nil)) pe_int)) (pss_one (ps_ret (pe_op op_mod (pe_callTy call_int1 (by rfl) T.int boot_int (pa_cons (pe_op op_fdivN (pe_op op_mod (pe_callTy call_int1 (by rfl) T.int boot_int (pa_cons (pe_op op_add (pe_op op_mul (pv 4) pe_int) (pv 2)) pa_nil)) pe_int) pe_int) pa_nil)) (pv 1))))))))), ?_⟩
    have ht : 0 < top := by omega
    have htn : (top : Int) ≠ 0 ∧ top.natAbs < 1073741824 := ⟨by omega, by omega⟩
    refine ix_own rfl hp rfl ⟨g, 0, rfl, rfl, _, rfl, ?_⟩
    refine ite2 (fun hg => ?_) (fun hg => ?_)
    · have hg := of_decide_eq_true hg
      refine ix_own rfl hp rfl (.inl ⟨g, rfl, _, rfl, g, top, rfl, rfl, ht, ?_⟩)
      refine ix_own rfl hp rfl ⟨_, rfl, g, top, rfl, rfl, htn, _, rfl, p, _, 0, 0, rfl, rfl, hp, rfl, _, rfl, ?_⟩
      refine q _ _ (Int.emod_nonneg _ htn.1) (Int.emod_lt_of_pos _ ht) ⟨_, m, k, rfl, ?_, b2, b3, b4, by omega⟩
      rw [Int.fdiv_eq_ediv_of_nonneg _ (by omega)]
      exact Int.ediv_nonneg b1 (by omega)
    · refine ix_own rfl hp rfl ⟨_, _, rfl, rfl, _, rfl, p, _, 2, 2, rfl, rfl, hp, rfl, ?_⟩
      refine ix_own rfl upd_same rfl (ix_own rfl upd_same rfl ⟨_, _, rfl, rfl, .inl ⟨by decide, by decide⟩, _, _, rfl, rfl, ix_own rfl upd_same rfl ⟨_, _, rfl, rfl, _, _, rfl, rfl, .inr ⟨by omega, by omega⟩, .inl ⟨_, rfl, _, _, rfl, rfl, (by show (0 : Int) < _; decide), ?_⟩⟩⟩)
      have ob := Int.emod_nonneg ((m + 48271 * (k + 1)) * (39373 + (k + 1))) (show (2147483647 : Int) ≠ 0 by decide)
      generalize ((m + 48271 * (k + 1)) * (39373 + (k + 1))) % 2147483647 = once at ob ⊢
      refine ⟨_, rfl, .inl ⟨_, rfl, _, _, rfl, rfl, (by show (0 : Int) < _; decide), _, _, rfl, rfl, ?_⟩⟩
      have f1 := Int.emod_nonneg once (show (40009 : Int) ≠ 0 by decide)
      have f2 := Int.emod_lt_of_pos once (show (0 : Int) < 40009 by decide)
      generalize once % 40009 = fm at f1 f2 ⊢
      refine ⟨_, rfl, ix_own rfl upd_same rfl ⟨_, _, rfl, rfl, ix_own rfl upd_same rfl ⟨_, _, rfl, rfl, ⟨by decide, by decide⟩, _, _, rfl, rfl, _, rfl, _, _, rfl, rfl, .inr ⟨by omega, by omega⟩, .inl ⟨_, rfl, _, _, rfl, rfl, (by show (0 : Int) < _; decide), ?_⟩⟩⟩⟩
      generalize ((once + (k + 1) + m.fdiv 1000003) * (fm + 7)) % 2147483629 = twice
      refine ⟨_, rfl, _, _, rfl, rfl, .inr ⟨by decide, by decide⟩, _, rfl, _, _, rfl, rfl, .inl ⟨_, rfl, _, _, rfl, rfl, (by show (0 : Int) < _; decide), _, _, rfl, rfl, ⟨by decide, by decide⟩, .inl ⟨_, rfl, _, rfl, _, _, rfl, rfl, ht, ?_⟩⟩⟩
      exact q _ _ (Int.emod_nonneg _ htn.1) (Int.emod_lt_of_pos _ ht) ⟨g, m, k + 1, rfl, b1, b2, b3, by omega, by omega⟩
abbrev s_L_of : Stmt := topS 13
theorem sc_L_of : FnScope ["_law_tin", "_law_some"] ["_law_tin", "_law_some"] (defScope s_L_of) := ⟨rfl, rfl, rfl, by decide +kernel, rfl, by decide +kernel, by decide +kernel⟩
theorem ok_of (X : Tx K mg "_law_of" ["_law_tin", "_law_some"] s_L_of) (T : Bt mg) (D_L_take : Df P w K mg base 1 "_law_take" ["_law_tin", "_law_top_so"] spTake) : Df P w K mg base 2 "_law_of" ["_law_tin", "_law_some"] spOf := by
  refine X.ok sc_L_of (fun vs H Q E h => ?_) (fun f cdv A outer s H vs Q E hr h => ?_)
  · obtain ⟨p, a, ws, c, o, rfl, _⟩ := h
    rfl
  · obtain ⟨p, a, ws, c, o, rfl, ha, hap, hl, hl2, hp, hb, hc, q⟩ := h
    refine ⟨_, (pss_one (ps_ret (pe_ix (ixS K) (pv 1) (pe_def D_L_take hr (by omega) (pa_cons (pv 0) (pa_cons (pe_callB (lenS K) (by rfl) T.len PySem.boot_len (pa_cons (pv 1) pa_nil)) pa_nil))) (fun _ _ => rfl)))), ?_⟩
    refine ⟨_, rfl, _, rfl, _, rfl, a, ws, rfl, .inl (SqL.of ha), p, _, c, o, rfl, by omega, by omega, hp, hb, hc, fun r o' h0 h1 hb' => ?_⟩
    obtain ⟨j, rfl⟩ := Int.eq_ofNat_of_zero_le h0
    have hj : j < ws.length := by omega
    exact .inl ⟨a, ws, j, ws[j], rfl, rfl, SqL.of (by rw [upd_ne hap]; exact ha), atI_nat (by simp [hj]), q _ o' (List.getElem_mem hj) hb'⟩
abbrev s_L_box : Stmt := topS 10
theorem sc_L_box : FnScope ["_law_script", "_law_k", "_law_great_so"] ["_law_script", "_law_k"] (defScope s_L_box) := ⟨rfl, rfl, rfl, by decide +kernel, rfl, by decide +kernel, by decide +kernel⟩
/-- from a list of ints, a place in it: a new source of draws -/
def spBox : Sp := fun vs H Q _ => ∃ (a : Addr) (ns : List Int) (j : Nat), vs = [.ref a, .int (j : Int)] ∧ H a = some (.lst (ns.map V.int)) ∧ j < ns.length ∧ ns.length ≤ 1000 ∧ ∀ (p : Addr) (o : HO), H p = none → BoxO 0 o → Q (.ref p) (upd H p o)
theorem ok_box (X : Tx K mg "_law_box" ["_law_script", "_law_k"] s_L_box) (T : Bt mg) : Df P w K mg base 1 "_law_box" ["_law_script", "_law_k"] spBox := by
  refine X.ok sc_L_box (fun vs H Q E h => ?_) (fun f cdv A outer s H vs Q E hr h => ?_)
  · obtain ⟨a, ns, j, rfl, _⟩ := h
    rfl
  · obtain ⟨a, ns, j, rfl, ha, hj, hl, q⟩ := h
    refine ⟨_, (pss_cons (ps_set (i := 2) sc_L_box.nd rfl (Or.inl rfl) (pe_ifExp (pt_cmpR op_lt (pv 1) (pe_callB (lenS K) (by rfl) T.len PySem.boot_len (pa_cons (pv 0) pa_nil)) (nomark _)) (pe_ix (ixS K) (pv 0) (pv 1) (fun _ _ => rfl)) pe_int)) (pss_one (ps_ret (pe_lst (pa_cons (pe_op op_mul (pe_callB call_abs (by rfl) T.abs boot_abs (pa_cons (pv 2) pa_nil)) (pe_callTy call_int1 (by rfl) T.int boot_int (pa_cons (pe_cmpR op_ge (pe_callB call_abs (by rfl) T.abs boot_abs (pa_cons (pv 2) pa_nil)) (pe_op op_pow pe_int pe_int) (nomark _)) pa_nil))) (pa_cons (pe_op op_add (pe_op op_add (pe_op op_mod (pe_callTy call_int1 (by rfl) T.int boot_int (pa_cons (pv 2) pa_nil)) pe_int) (pe_op op_mul pe_int (pv 1))) pe_int) (pa_cons pe_int pa_nil))))))), ?_⟩
    have hlen : (ns.map V.int).length = ns.length := List.length_map _
    have hg : (ns.map V.int)[j]? = some (.int ns[j]) := by
      rw [List.getElem?_map, List.getElem?_eq_getElem hj]
      rfl
    refine ⟨_, rfl, _, rfl, a, _, rfl, .inl (SqL.of ha), _, _, rfl, rfl, _, rfl, ?_⟩
    rw [decide_eq_true (by omega)]
    refine iteT ⟨_, rfl, _, rfl, .inl ⟨a, _, _, _, rfl, rfl, SqL.of ha, atI_nat hg, ?_⟩⟩
    generalize ns[j] = x
    refine ⟨_, rfl, _, rfl, _, rfl, _, rfl, _, _, rfl, rfl, ⟨by decide, by decide, by decide⟩, _, _, rfl, rfl, .inr ⟨_, rfl, ?_⟩⟩
    generalize hd : decide (((10 : Int) ^ (18 : Int).toNat) ≤ (if x < 0 then -x else x)) = b
    have hb : (-(2 ^ 64) < (if b = true then (1 : Int) else 0) ∧ (if b = true then (1 : Int) else 0) < 2 ^ 64) ∧ 0 ≤ (if b = true then (1 : Int) else 0) := by
      cases b
      · exact ⟨⟨by decide, by decide⟩, by decide⟩
      · exact ⟨⟨by decide, by decide⟩, by decide⟩
    generalize (if b = true then (1 : Int) else 0) = y at hb ⊢
    refine ⟨_, _, rfl, rfl, .inr hb.1, _, rfl, .inl ⟨_, rfl, _, _, rfl, rfl, (by show (0 : Int) < _; decide), _, rfl, _, _, rfl, rfl, .inl ⟨by decide, by decide⟩, _, _, rfl, rfl, _, _, rfl, rfl, (by show 3 ≤ sizeLine; decide), fun p hp => q p _ hp ?_⟩⟩
    have m0 := Int.emod_nonneg x (show (2305843009213693951 : Int) ≠ 0 by decide)
    have m1 := Int.emod_lt_of_pos x (show (0 : Int) < 2305843009213693951 by decide)
    refine ⟨_, _, 0, rfl, Int.mul_nonneg ?_ hb.2, by omega, by omega, Int.le_refl _, Int.le_refl _⟩
    split <;> omega
abbrev s_L_cells : Stmt := topS 12
theorem sc_L_cells : FnScope ["_law_script", "_law_most", "_law_cells_here", "_law_k", "_law_great_so", "_law_at_so"] ["_law_script", "_law_most"] (defScope s_L_cells) := ⟨rfl, rfl, rfl, by decide +kernel, rfl, by decide +kernel, by decide +kernel⟩
/-- the first numbers of the script, with the later ones added to them -/
def spCells (K : PySem.W.Frag) : Sp := fun vs H Q _ => ∃ (a : Addr) (ns : List Int) (m : Nat), vs = [.ref a, .int (m : Int)] ∧ SqL K H a (ns.map V.int) ∧ ns.length ≤ 63 ∧ 1 ≤ m ∧ m ≤ 10 ∧
  ∀ (p : Addr) (ms : List Int) (H' : Hp), H p = none → Ex H H' → 1 ≤ ms.length → ms.length ≤ m → H' p = some (.lst (ms.map V.int)) → Q (.ref p) H'
theorem ok_cells (X : Tx K mg "_law_cells" ["_law_script", "_law_most"] s_L_cells) (T : Bt mg) : Df P w K mg base 1 "_law_cells" ["_law_script", "_law_most"] (spCells K) := by
  refine X.ok sc_L_cells (fun vs H Q E h => ?_) (fun f cdv A outer s H vs Q E hr h => ?_)
  · obtain ⟨a, ns, m, rfl, _⟩ := h
    rfl
  · obtain ⟨a, ns, m, rfl, ha, hn, hm, hm2, q⟩ := h
    refine ⟨_, (pss_cons (ps_set (i := 2) sc_L_cells.nd rfl (Or.inl rfl) (pe_orT (pe_callTy (listS K) (by rfl) T.list boot_list (pa_cons (pe_slice (slL K) (pv 0) po_none (po_some (pv 1))) pa_nil)) (pe_one (pe_lst (pa_cons pe_int pa_nil))))) (pss_cons (ps_for PassesOwn.never rfl (piEnum K (by rfl) T.enumerate (pa_cons (pe_slice (slL K) (pv 0) (po_some (pv 1)) (po_some pe_int)) pa_nil)) (pgTup K rfl (pgs_cons (pg_name (i := 3) sc_L_cells.nd rfl (Or.inl rfl)) (pgs_cons (pg_name (i := 4) sc_L_cells.nd rfl (Or.inl rfl)) pgs_nil))) (pss_cons (ps_set (i := 5) sc_L_cells.nd rfl (Or.inl rfl) (pe_op op_mod (pe_callTy call_int1 (by rfl) T.int boot_int (pa_cons (pv 3) pa_nil)) (pv 1))) (pss_one (ps_asg (pe_op op_add (pe_ix (ixS K) (pv 2) (pv 5) (fun _ _ => rfl)) (pe_op op_mul (pv 4) (pe_op op_add (pv 3) pe_int))) (pg_sub (pv 2) (pv 5) set_list))))) (pss_one (ps_ret (pv 2))))), ?_⟩
    refine cells_first (ns := ns) (m := m) rfl rfl ha hm fun p ms H2 hp0 e2 hp hms hms2 hfull => ?_
    refine ⟨_, rfl, _, rfl, m, rfl, 63, rfl, a, _, rfl, Evl.ex_l e2 ha, fun s hs => ⟨s, _, rfl, SqL.of upd_same, ?_⟩⟩
    rw [show (63 : Int) = ((63 : Nat) : Int) from rfl, cut_from _ _ _ (by rw [List.length_map]; exact hn), ← List.map_drop]
    have nps : p ≠ s := fun z => by
      rw [z, hs] at hp
      cases hp
    generalize hr : ns.drop m = rs
    have hrl : rs.length = ns.length - m := by rw [← hr, List.length_drop]
    refine ⟨fun i n σ' H' => n = rs.length - i ∧ i ≤ rs.length ∧ ∃ (ns' : List Int) (v3 v4 v5 : Option V), σ' = [some (.ref a), some (.int m), some (.ref p), v3, v4, v5] ∧ Ex H H' ∧ H' p = some (.lst (ns'.map V.int)) ∧ ns'.length = ms.length ∧ H' s = some (.lst (rs.map V.int)),
      ⟨rs.length, rfl, Nat.zero_le _, ms, none, none, none, rfl, e2.trans (Ex.new hs), by rw [upd_ne nps]; exact hp, rfl, upd_same⟩, ?_⟩
    rintro i n σ' H' ⟨rfl, hi, ns', v3, v4, v5, rfl, e3, hp3, hl3, hs3⟩
    have hsl := SqL.of (K := K) hs3
    by_cases hlt : i < rs.length
    · have hg : (rs.map V.int)[i]? = some (.int rs[i]) := by
        rw [List.getElem?_map, List.getElem?_eq_getElem hlt]
        rfl
      refine .inr ⟨⟨_, _, hsl, hg⟩, fun σ'' H'' => ∃ (ns' : List Int) (v3 v4 v5 : Option V), σ'' = [some (.ref a), some (.int m), some (.ref p), v3, v4, v5] ∧ Ex H H'' ∧ H'' p = some (.lst (ns'.map V.int)) ∧ ns'.length = ms.length ∧ H'' s = some (.lst (rs.map V.int)),
        fun σ'' H'' w => ⟨rs.length - (i + 1), by omega, rfl, hlt, w⟩, ?_⟩
      rintro x H'' ⟨T1, y, rfl, nT, rfl, hy⟩
      have ey := hy _ hsl
      rw [hg] at ey
      cases ey
      have hm3 : ns'.length = m := by rw [hl3]; exact hfull (by omega)
      have hp4 : (upd H' T1 (.tup [.int (i : Nat), .int rs[i]])) p = some (.lst (ns'.map V.int)) := by
        rw [upd_ne (ne_of_none hp3 nT)]
        exact hp3
      have hs4 : (upd H' T1 (.tup [.int (i : Nat), .int rs[i]])) s = some (.lst (rs.map V.int)) := by
        rw [upd_ne (ne_of_none hs3 nT)]
        exact hs3
      have e4 : Ex H (upd H' T1 (.tup [.int (i : Nat), .int rs[i]])) := e3.trans (Ex.new nT)
      have hj : i % m < ns'.length := by rw [hm3]; exact Nat.mod_lt _ hm
      have hat : (ns'.map V.int)[i % m]? = some (.int ns'[i % m]) := by
        rw [List.getElem?_map, List.getElem?_eq_getElem hj]
        rfl
      refine ⟨T1, _, rfl, SqT.of upd_same, rfl, _, _, rfl, _, _, rfl, rfl, ?_⟩
      refine ⟨_, rfl, .inl ⟨_, rfl, _, rfl, _, _, rfl, rfl, (by show (0 : Int) < (m : Int); omega), ?_⟩⟩
      have ec : ((i : Nat) : Int) % (m : Int) = ((i % m : Nat) : Int) := (Int.natCast_emod i m).symm
      have hat' : atI (ns'.map V.int) (((i : Nat) : Int) % (m : Int)) = some (.int ns'[i % m]) := by
        rw [ec]
        exact atI_nat hat
      have hix : ixN (ns'.map V.int).length (((i : Nat) : Int) % (m : Int)) = some (i % m) := by
        rw [ec]
        unfold ixN
        rw [List.length_map, if_pos (by omega), if_pos (by omega), Int.toNat_natCast]
      refine ⟨_, rfl, _, rfl, .inl ⟨p, _, _, _, rfl, rfl, SqL.of hp4, hat', _, rfl, _, rfl, _, _, rfl, rfl, _, _, rfl, rfl, .inr ⟨by omega, by omega⟩, _, _, rfl, rfl, _, rfl, _, rfl, p, _, _, i % m, rfl, rfl, hp4, hix, ?_⟩⟩
      · refine ⟨ns'.set (i % m) (ns'[i % m] + rs[i] * ((i : Int) + 2)), _, _, _, rfl, e4.mut hp0, ?_, by rw [List.length_set, hl3], ?_⟩
        · rw [upd_same, List.map_set]
        · rw [upd_ne nps.symm]
          exact hs4
    · refine .inl ⟨⟨_, hsl, by rw [List.length_map]; omega⟩, _, rfl, q p ns' H' hp0 e3 (by omega) (by omega) hp3⟩
abbrev s_L_same : Stmt := topS 14
theorem sc_L_same : FnScope ["_law_got", "_law_due", "_law_lot_so", "_law_mine", "_law_its"] ["_law_got", "_law_due"] (defScope s_L_same) := ⟨rfl, rfl, rfl, by decide +kernel, rfl, by decide +kernel, by decide +kernel⟩
theorem ok_same (X : Tx K mg "_law_same" ["_law_got", "_law_due"] s_L_same) (T : Bt mg) : ∀ n : Nat, Df P w K mg base n "_law_same" ["_law_got", "_law_due"] (spD K 2 (domSame n))
  | 0 => (Tx.none (n := 2) X).imp fun vs H Q E h => by
    obtain ⟨a, Hd, ds, r, b, c, ⟨_, _, _, z, _⟩, e⟩ := h
    exact absurd z (Nat.not_lt_zero _)
  | n + 1 => by
    have D_L_same : Df P w K mg base n "_law_same" ["_law_got", "_law_due"] (spD K 2 (domSame n)) := ok_same X T n
    refine X.ok sc_L_same (fun vs H Q E h => h.1.trans rfl) (fun f cdv A outer s H vs Q E hr h => ?_)
    obtain ⟨hl, Hd, ds, r, e, hd, ⟨g, d, rfl, hn, sg, sd, rfl⟩, q⟩ := h
    refine ⟨_, (pss_cons (ps_if (pt_val (pe_callB (isiTS K) (by rfl) T.isinstance boot_isinstance (pa_cons (pv 1) (pa_cons (pe_tup (pa_cons (pe_bltn (v := .ty "list") (by rfl) T.list boot_list rfl) (pa_cons (pe_bltn (v := .ty "tuple") (by rfl) T.tuple boot_tuple rfl) pa_nil))) pa_nil)))) (pss_cons (ps_if (PW.pt (pw_or (pt_cmpR (neS K hr.units) (pe_callB (isiS K) (by rfl) T.isinstance boot_isinstance (pa_cons (pv 0) (pa_cons (pe_bltn (v := .ty "list") (by rfl) T.list boot_list rfl) pa_nil))) (pe_callB (isiS K) (by rfl) T.isinstance boot_isinstance (pa_cons (pv 1) (pa_cons (pe_bltn (v := .ty "list") (by rfl) T.list boot_list rfl) pa_nil))) (nomark _)) (pw_or1 (pt_cmpR (neS K hr.units) (pe_callB (isiS K) (by rfl) T.isinstance boot_isinstance (pa_cons (pv 0) (pa_cons (pe_bltn (v := .ty "tuple") (by rfl) T.tuple boot_tuple rfl) pa_nil))) (pe_callB (isiS K) (by rfl) T.isinstance boot_isinstance (pa_cons (pv 1) (pa_cons (pe_bltn (v := .ty "tuple") (by rfl) T.tuple boot_tuple rfl) pa_nil))) (nomark _))))) (pss_one (ps_ret pe_bl)) pss_nil) (pss_one (ps_ret (pe_and (pe_cmpR (eqS K hr.units) (pe_callB (lenS K) (by rfl) T.len PySem.boot_len (pa_cons (pv 0) pa_nil)) (pe_callB (lenS K) (by rfl) T.len PySem.boot_len (pa_cons (pv 1) pa_nil)) (nomark _)) (pe_one (pe_callB (allS K) (by rfl) T.all (by decide +kernel) (pa_cons (pe_lc (own := [("_law_mine", 3), ("_law_its", 4)]) (g := gTup K 2 (gCons (gName 3) (gCons (gName 4) gNil))) (tt := tYes) rfl sc_L_same.nd (piZip K (by rfl) T.zip (pa_cons (pv 0) (pa_cons (pv 1) pa_nil))) (blkOk_by (N := ["_law_got", "_law_due", "_law_lot_so", "_law_mine", "_law_its"]) (sc := defScope s_L_same) (by decide +kernel)) (fun _ _ _ _ _ => (pgTup K rfl (pgs_cons (pg_name (i := 3) sc_L_same.nd rfl (Or.inl rfl) (hf := .inr rfl)) (pgs_cons (pg_name (i := 4) sc_L_same.nd rfl (Or.inl rfl) (hf := .inr rfl)) pgs_nil)))) (fun _ _ _ _ _ => pts_nil) (fun _ _ _ _ _ => (pe_def D_L_same hr (by omega) (pa_cons (pv 3) (pa_cons (pv 4) pa_nil))))) pa_nil))))))) pss_nil) (pss_cons (ps_if (pt_val (pe_callB (isiS K) (by rfl) T.isinstance boot_isinstance (pa_cons (pv 1) (pa_cons (pe_bltn (v := .ty "dict") (by rfl) T.dict boot_dict rfl) pa_nil)))) pss_never pss_nil) (pss_cons (ps_if (PW.pt (pw_or (pt_cmpR op_isN (pv 1) pe_non (nomark _)) (pw_or1 (pt_val (pe_callB (isiTS K) (by rfl) T.isinstance boot_isinstance (pa_cons (pv 1) (pa_cons (pe_tup (pa_cons (pe_bltn (v := .ty "bool") (by rfl) T.bool boot_bool rfl) (pa_cons (pe_bltn (v := .ty "str") (by rfl) T.str boot_str rfl) pa_nil))) pa_nil))))))) (pss_one (ps_ret (pe_and (pe_cmpR (eqS K hr.units) (pv 0) (pv 1) (nomark _)) (pe_and (pe_cmpR (eqS K hr.units) (pe_callB (isiS K) (by rfl) T.isinstance boot_isinstance (pa_cons (pv 0) (pa_cons (pe_bltn (v := .ty "bool") (by rfl) T.bool boot_bool rfl) pa_nil))) (pe_callB (isiS K) (by rfl) T.isinstance boot_isinstance (pa_cons (pv 1) (pa_cons (pe_bltn (v := .ty "bool") (by rfl) T.bool boot_bool rfl) pa_nil))) (nomark _)) (pe_one (pe_cmpR (eqS K hr.units) (pe_cmpR op_isN (pv 0) pe_non (nomark _)) (pe_cmpR op_isN (pv 1) pe_non (nomark _)) (nomark _))))))) pss_nil) (pss_one (ps_ret (pe_and (pe_callB (isiS K) (by rfl) T.isinstance boot_isinstance (pa_cons (pv 0) (pa_cons (pe_bltn (v := .ty "int") (by rfl) T.int boot_int rfl) pa_nil))) (pe_and (pe_not (pe_callB (isiS K) (by rfl) T.isinstance boot_isinstance (pa_cons (pv 0) (pa_cons (pe_bltn (v := .ty "bool") (by rfl) T.bool boot_bool rfl) pa_nil)))) (pe_one (pe_cmpR (eqS K hr.units) (pv 0) (pv 1) (nomark _)))))))))), ?_⟩
    refine run_d e hd ?_ q
    refine sd_ifR (b := is_list d || is_tuple d) (et_val (ed_isi2 (ed_var rfl) (kb_list d) (kb_tuple d))) (fun hb => ?_) (fun hb => ?_) (fun _ z => nomatch z)
    · refine sd_ifR (b := (is_list g != is_list d) || (is_tuple g != is_tuple d)) (et_or (et_test (ed_op (ed_isi (ed_var rfl) (kb_list g)) (ed_isi (ed_var rfl) (kb_list d)) rd_neB)) fun _ => et_test (ed_op (ed_isi (ed_var rfl) (kb_tuple g)) (ed_isi (ed_var rfl) (kb_tuple d)) rd_neB)) (fun hb1 => ?_) (fun hb1 => ?_) (fun _ z => nomatch z)
      · refine sd_ret (ed_bl.is ?_)
        cases d <;> first | (simp [is_list, is_tuple] at hb; done) | (cases g <;> first | rfl | (simp [is_list, is_tuple] at hb1; done))
      · cases d with
        | list ys =>
          cases g with
          | list xs =>
            have fx := fine_list sg
            have fy := fine_list sd
            refine sd_ret ((ed_and (b := decide (xs.length = ys.length)) ((ed_op (ed_lenR (ed_var rfl).rd) (ed_lenR (ed_var rfl).rd) rd_eqI).is (congrArg PyData.bool (decide_eq_decide.mpr (by omega)))) fun _ => ed_all (er_same (ei_zipL (ea_cons (ed_var rfl) (ea_cons (ed_var rfl) ea_nil))) fx.1 (by decide) (by decide) (by decide) (by show 3 < 5; decide) (by show 4 < 5; decide) fun x y hx hy => ?_)).is ?_)
            · exact ⟨x, y, rfl, by have := (fy.2 y hy).2; omega, (fx.2 x hx).1, (fy.2 y hy).1, rfl⟩
            · show PyData.bool _ = PyData.bool (sameA xs ys)
              rw [sameA_zip]
          | _ => exact nomatch hb1
        | tuple ys =>
          cases g with
          | tuple xs =>
            have fx := fine_tup sg
            have fy := fine_tup sd
            refine sd_ret ((ed_and (b := decide (xs.length = ys.length)) ((ed_op (ed_lenT (ed_var rfl)) (ed_lenT (ed_var rfl)) rd_eqI).is (congrArg PyData.bool (decide_eq_decide.mpr (by omega)))) fun _ => ed_all (er_same (ei_zipT (ea_cons (ed_var rfl) (ea_cons (ed_var rfl) ea_nil))) fx.1 (by decide) (by decide) (by decide) (by show 3 < 5; decide) (by show 4 < 5; decide) fun x y hx hy => ?_)).is ?_)
            · exact ⟨x, y, rfl, by have := (fy.2 y hy).2; omega, (fx.2 x hx).1, (fy.2 y hy).1, rfl⟩
            · show PyData.bool _ = PyData.bool (sameA xs ys)
              rw [sameA_zip]
          | _ => exact nomatch hb1
        | _ => exact nomatch hb
    · have hdict : is_dict d = false := by
        cases d <;> first | rfl | exact nomatch fine_shaped sd
      refine sd_ifR (b := is_dict d) (et_val (ed_isi (ed_var rfl) (kb_dict d))) (fun hb2 => ?_) (fun hb2 => ?_) (fun _ z => nomatch z)
      · rw [hdict] at hb2
        cases hb2
      · refine sd_ifR (b := is_non d || (is_bool d || is_str d)) (et_or (et_test (ed_op (ed_var rfl) ed_non rd_isNon)) fun _ => et_val (ed_isi2 (ed_var rfl) (kb_bool d) (kb_str d))) (fun hb3 => ?_) (fun hb3 => ?_) (fun _ z => nomatch z)
        · refine sd_ret ((ed_and (ed_op (ed_var rfl) (ed_var rfl) (rd_eqD (fine_shaped sg) (fine_shaped sd))) fun _ => ed_and (ed_op (ed_isi (ed_var rfl) (kb_bool g)) (ed_isi (ed_var rfl) (kb_bool d)) rd_eqB) fun _ => ed_op (ed_op (ed_var rfl) ed_non rd_isNon) (ed_op (ed_var rfl) ed_non rd_isNon) rd_eqB).is ?_)
          cases d <;> first | (simp [is_non, DL.is_bool, is_str] at hb3; done) | (simp [is_list, is_tuple] at hb; done) | (cases g <;> simp [PyData.eqv, DL.is_bool, is_non, sameD])
        · refine sd_ret ((ed_and (ed_isi (ed_var rfl) (kb_int g)) fun _ => ed_and (ed_not (ed_isi (ed_var rfl) (kb_bool g))) fun _ => ed_op (ed_var rfl) (ed_var rfl) (rd_eqD (fine_shaped sg) (fine_shaped sd))).is ?_)
          cases d <;> first | (simp [is_non, DL.is_bool, is_str] at hb3; done) | (simp [is_list, is_tuple] at hb; done) | (simp [is_dict] at hdict; done) | (cases g <;> simp [PyData.eqv, DL.is_bool, is_int, sameD])
end
end Law

namespace Law
open PySem PySem.Spec PyProof.Rows L2 DL
open Evl
open RZ
def bodyOf : Stmt → List Stmt
  | .ClassDef _ _ _ body .. => body
  | _ => []
abbrev initS (i : Nat) : Stmt := (bodyOf (topS i)).getD 0 (.Pass ⟨0, 0, 0, 0⟩)
/-- an own class with an __init__, that keeps the promise sp -/
structure Oc (P : Program) (w : World) (K : PySem.W.Frag) (mg : Str → Option Value) (base : Heap) (x : Str) (ps : List Str) (sp : Sp) (C : Addr) : Prop where
  m : mg x = some (.ref C)
  own : ∃ (B newId initId : String) (bmB : List Value), OwnE K C B newId initId bmB
  xc : ExcC K C
  init : ∃ (fI : Addr) (fd : FuncData), PySem.W.findIn K (.ref C) "__init__" = some (some (.ref fI)) ∧ PySem.W.typeIn K (.ref fI) = some (.type "function") ∧ FnOk P w K mg base CX0 1 fI fd ps sp ∧ Binds K fd ps []
/-- one without -/
structure O0 (K : PySem.W.Frag) (mg : Str → Option Value) (x : Str) (C : Addr) : Prop where
  m : mg x = some (.ref C)
  own : ∃ (B newId initId : String) (bmB : List Value), ExcBaseFacts B newId initId bmB ∧ PySem.W.excInitIn K C bmB newId = true ∧ PySem.W.keepIn K (.ref C) = true ∧ PySem.W.findIn K (.ref C) "__init__" = some (some (.builtin initId))
  xc : ExcC K C
/-- made by names, too -/
structure OcK (P : Program) (w : World) (K : PySem.W.Frag) (mg : Str → Option Value) (base : Heap) (x : Str) (sp : Sp) (C : Addr) : Prop where
  m : mg x = some (.ref C)
  own : ∃ (B newId initId : String) (bmB : List Value), OwnE K C B newId initId bmB
  init : ∃ (fI : Addr) (fd : FuncData), PySem.W.findIn K (.ref C) "__init__" = some (some (.ref fI)) ∧ PySem.W.typeIn K (.ref fI) = some (.type "function") ∧ FnOk P w K mg base CX0 1 fI fd ["self", "one", "other"] sp ∧
    ∀ (s : Shared) (me w1 w2 : Value), BindsTo s fd ⟨[me], [("other", w1), ("one", w2)]⟩ ((["self", "one", "other"] : List Str).zip [me, w2, w1])
section
variable {X : Cx} {x : Str} {C : Addr} {ps : List Str} {sp : Sp} {e : Expr} {es : List Expr} {ta tk : TA} {p pos : Pos} {k : Nat} {kws : List Keyword}
theorem pe_oc (I : Oc X.prog X.w X.K X.mg X.base x ps sp C) (hr : Room k X.A) (hk : 2 ≤ k) (ha : PA X (e :: es) ta) (hg : Gl X x := by rfl) (hdb : (x == ("__debug__" : Str)) = false := by decide) (he : starEach (e :: es) X.env = (false, eval e X.env) :: starEach es X.env := by rfl) (hpl : (backTo pos (starEach es X.env)).any (·.1) = false := by rfl) :
    PE X (.Call (.Name x p) (e :: es) [] pos) (tMkV C sp ta) := by
  obtain ⟨B, n1, n2, bm, T⟩ := I.own
  obtain ⟨fI, fd, h1, h2, h3, h4⟩ := I.init
  exact pe_mkV T h1 h2 h3 (hr.mono hk) h4 hg I.m ha hdb he hpl
theorem pe_o0 (I : O0 X.K X.mg x C) (hg : Gl X x := by rfl) (hdb : (x == ("__debug__" : Str)) = false := by decide) : PE X (.Call (.Name x p) [] [] pos) (fun _ H Q => ∀ a, H a = none → Q (.ref a) (upd H a (exo a C none))) := by
  obtain ⟨B, n1, n2, bm, h1, h2, h3, h4⟩ := I.own
  exact pe_mk0 h1 h2 h3 h4 hg I.m hdb
theorem pe_ock (I : OcK X.prog X.w X.K X.mg X.base x sp C) (hr : Room k X.A) (hk : 2 ≤ k) (hkw : PK X kws tk) (hg : Gl X x := by rfl) (hall : (backToKw pos (keywordEach kws X.env)).all (·.1.isSome) = true := by rfl) (hks : (backToKw pos (keywordEach kws X.env)).filterMap (·.1) = (["other", "one"] : List Str) := by rfl)
    (hdb : (x == ("__debug__" : Str)) = false := by decide) (hpl : ((backTo pos (starEach [] X.env)).any (·.1) || (backToKw pos (keywordEach kws X.env)).any (·.1.isNone)) = false := by rfl) : PE X (.Call (.Name x p) [] kws pos) (tMkK C sp tk) := by
  obtain ⟨B, n1, n2, bm, T⟩ := I.own
  obtain ⟨fI, fd, h1, h2, h3, h4⟩ := I.init
  exact pe_mkK T h1 h2 h3 (hr.mono hk) h4 hg I.m hkw hall hks hdb hpl
theorem isOwS (K : PySem.W.Frag) (h : X.K = K := by rfl) : CallR X (.builtin "isinstance") (rIsOw K) := h ▸ call_isOw
theorem isOTS (K : PySem.W.Frag) (h : X.K = K := by rfl) : CallR X (.builtin "isinstance") (rIsOT K) := h ▸ call_isOT
theorem room_mono {A : Around} {j k : Nat} (h : Room k A) (hj : j ≤ k) : Room j A := h.mono hj
end
section
variable {P : Program} {w : World} {K : PySem.W.Frag} {mg : Str → Option Value} {base : Heap}
theorem sc_i1 : FnScope ["self", "name"] ["self", "name"] (defScope (initS 1)) := ⟨rfl, rfl, rfl, by decide +kernel, rfl, by decide +kernel, by decide +kernel⟩
theorem ok_i1 {fI : Addr} {fd : FuncData} (F : Fun K "__init__" "NoName.__init__" (initS 1) fI fd) : FnOk P w K mg base CX0 1 fI fd ["self", "name"] (spI1 K "name") := by
  refine F.ok sc_i1 (fun vs H Q E h => ?_) (fun cdv A outer s H vs Q E hr h => ?_)
  · obtain ⟨a, C, B, n1, n2, bm, y, rfl, _⟩ := h
    rfl
  · obtain ⟨a, C, B, n1, n2, bm, y, rfl, T, ht, ha, q⟩ := h
    refine ⟨_, pss_one (ps_stO (pv 0) (pv 1)), ?_⟩
    exact ⟨_, rfl, _, rfl, a, C, B, n1, n2, bm, rfl, T, ht, .inl ⟨ha, fun dx h1 h2 => q dx h1 h2⟩⟩
theorem sc_i2 : FnScope ["self", "number"] ["self", "number"] (defScope (initS 2)) := ⟨rfl, rfl, rfl, by decide +kernel, rfl, by decide +kernel, by decide +kernel⟩
theorem ok_i2 {fI : Addr} {fd : FuncData} (F : Fun K "__init__" "NoNumber.__init__" (initS 2) fI fd) : FnOk P w K mg base CX0 1 fI fd ["self", "number"] (spI1 K "number") := by
  refine F.ok sc_i2 (fun vs H Q E h => ?_) (fun cdv A outer s H vs Q E hr h => ?_)
  · obtain ⟨a, C, B, n1, n2, bm, y, rfl, _⟩ := h
    rfl
  · obtain ⟨a, C, B, n1, n2, bm, y, rfl, T, ht, ha, q⟩ := h
    refine ⟨_, pss_one (ps_stO (pv 0) (pv 1)), ?_⟩
    exact ⟨_, rfl, _, rfl, a, C, B, n1, n2, bm, rfl, T, ht, .inl ⟨ha, fun dx h1 h2 => q dx h1 h2⟩⟩
theorem sc_i5 : FnScope ["self", "name"] ["self", "name"] (defScope (initS 5)) := ⟨rfl, rfl, rfl, by decide +kernel, rfl, by decide +kernel, by decide +kernel⟩
theorem ok_i5 {fI : Addr} {fd : FuncData} (F : Fun K "__init__" "Twice.__init__" (initS 5) fI fd) : FnOk P w K mg base CX0 1 fI fd ["self", "name"] (spI1 K "name") := by
  refine F.ok sc_i5 (fun vs H Q E h => ?_) (fun cdv A outer s H vs Q E hr h => ?_)
  · obtain ⟨a, C, B, n1, n2, bm, y, rfl, _⟩ := h
    rfl
  · obtain ⟨a, C, B, n1, n2, bm, y, rfl, T, ht, ha, q⟩ := h
    refine ⟨_, pss_one (ps_stO (pv 0) (pv 1)), ?_⟩
    exact ⟨_, rfl, _, rfl, a, C, B, n1, n2, bm, rfl, T, ht, .inl ⟨ha, fun dx h1 h2 => q dx h1 h2⟩⟩
theorem sc_i6 : FnScope ["self", "one", "other"] ["self", "one", "other"] (defScope (initS 6)) := ⟨rfl, rfl, rfl, by decide +kernel, rfl, by decide +kernel, by decide +kernel⟩
theorem ok_i6 {fI : Addr} {fd : FuncData} (F : Fun K "__init__" "NotJoined.__init__" (initS 6) fI fd) : FnOk P w K mg base CX0 1 fI fd ["self", "one", "other"] (spI2 K "one" "other") := by
  refine F.ok sc_i6 (fun vs H Q E h => ?_) (fun cdv A outer s H vs Q E hr h => ?_)
  · obtain ⟨a, C, B, n1, n2, bm, y, z, rfl, _⟩ := h
    rfl
  · obtain ⟨a, C, B, n1, n2, bm, y, z, rfl, T, ht, hu, ha, q⟩ := h
    refine ⟨_, pss_cons (ps_stO (pv 0) (pv 1)) (pss_one (ps_stO (pv 0) (pv 2))), ?_⟩
    refine ⟨_, rfl, _, rfl, a, C, B, n1, n2, bm, rfl, T, ht, .inl ⟨ha, fun dx h1 h2 => ?_⟩⟩
    exact ⟨_, rfl, _, rfl, a, C, B, n1, n2, bm, rfl, T, hu, .inr ⟨dx, _, upd_same, by rw [upd_ne h2, upd_same], (by show 1 ≤ 900; decide), q dx h1 h2⟩⟩
theorem sc_i8 : FnScope ["self", "number"] ["self", "number"] (defScope (initS 8)) := ⟨rfl, rfl, rfl, by decide +kernel, rfl, by decide +kernel, by decide +kernel⟩
theorem ok_i8 {fI : Addr} {fd : FuncData} (F : Fun K "__init__" "BadLine.__init__" (initS 8) fI fd) : FnOk P w K mg base CX0 1 fI fd ["self", "number"] (spI1 K "number") := by
  refine F.ok sc_i8 (fun vs H Q E h => ?_) (fun cdv A outer s H vs Q E hr h => ?_)
  · obtain ⟨a, C, B, n1, n2, bm, y, rfl, _⟩ := h
    rfl
  · obtain ⟨a, C, B, n1, n2, bm, y, rfl, T, ht, ha, q⟩ := h
    refine ⟨_, pss_one (ps_stO (pv 0) (pv 1)), ?_⟩
    exact ⟨_, rfl, _, rfl, a, C, B, n1, n2, bm, rfl, T, ht, .inl ⟨ha, fun dx h1 h2 => q dx h1 h2⟩⟩
end
end Law

namespace Law
open PySem PySem.Spec PyProof.Rows L2 DL
open Evl
open RZ
section
variable {K : PySem.W.Frag} {σ : L2.St} {H H' : Hp} {ta tb te tc : TE} {x c : V} {xs ys : List V} {C : Addr}
/-- an error of the class at C -/
def Er (K : PySem.W.Frag) (H : Hp) (v : V) (C : Addr) : Prop := ∃ (a : Addr) (od : Option Addr), v = .ref a ∧ ExcC K C ∧ H a = some (exo a C od) ∧ ∀ dx, od = some dx → ∃ fs, H dx = some (exd dx fs)
theorem Er.mono (h : Er K H x C) (e : Ex H H') : Er K H' x C := by
  obtain ⟨a, od, e1, F, e2, e3⟩ := h
  exact ⟨a, od, e1, F, e _ _ e2, fun dx q => (e3 dx q).imp fun fs z => e _ _ z⟩
theorem ev_isOw {cv : Value} {b : Bool} (hx : Ev te σ H x) (hc : Ev tc σ H c) (hE : Er K H x C) (hcv : ∀ u, RelV c u → u = cv) (hk : PySem.W.kitOne K (.ref C) cv = some b) : Ev (tCB (rIsOw K) (tCons te (tCons tc tNil))) σ H (.bl b) :=
  ev_cb (ea_cons hx (ea_cons hc ea_nil)) fun H1 e Q q => by
    obtain ⟨a, od, rfl, F, e2, e3⟩ := hE.mono e
    cases od with
    | none => exact .inr ⟨a, C, c, cv, b, rfl, F, e2, hcv, hk, q H1 (Ex.refl H1)⟩
    | some dx =>
      obtain ⟨fs, ed⟩ := e3 dx rfl
      exact .inl ⟨a, C, dx, fs, c, cv, b, rfl, F, e2, ed, hcv, hk, q H1 (Ex.refl H1)⟩
theorem ev_isOT {S T : String} {b : Bool} (hx : Ev te σ H x) (hE : Er K H x C) (hk : PySem.W.kitAny K (.ref C) [.type S, .type T] = some b) : Ev (tCB (rIsOT K) (tCons te (tCons (tTup (tCons (tC (.ty S)) (tCons (tC (.ty T)) tNil))) tNil))) σ H (.bl b) := fun H1 e Q q =>
  hx H1 e _ fun H2 e2 => eu_tup (σ := σ) (H := H2) (vs := [.ty S, .ty T]) (ea_cons ev_c (ea_cons ev_c ea_nil)) (by simp) H2 (Ex.refl H2) _ fun p H3 hp e3 h3 => by
    obtain ⟨a, od, rfl, F, f2, f3⟩ := hE.mono ((e.trans e2).trans e3)
    exact ⟨a, C, p, od, S, T, b, rfl, F, f2, f3, h3, hk, q H3 (e2.trans e3)⟩
theorem el_cat {l : Addr} (ha : Ev ta σ H (.ref l)) (hl : H l = some (.lst xs)) (hb : EvL tb σ H ys) (hz : xs.length + ys.length ≤ 100000) : EvL (tOp rCat ta tb) σ H (xs ++ ys) := fun H1 e Q q =>
  ha H1 e _ fun H2 e2 => hb H2 (e.trans e2) _ fun p H3 hp e3 h3 => ⟨l, p, xs, ys, rfl, rfl, e3 _ _ (e2 _ _ (e _ _ hl)), h3, sz_of hz, fun r hr => q r _ (fresh_back (e2.trans e3) hr) ((e2.trans e3).mut (fresh_back (e2.trans e3) hr)) upd_same⟩
theorem el_catL (ha : EvL ta σ H xs) (hb : EvL tb σ H ys) (hz : xs.length + ys.length ≤ 100000) : EvL (tOp rCat ta tb) σ H (xs ++ ys) := fun H1 e Q q =>
  ha H1 e _ fun l H2 hl e2 h2 => hb H2 (e.trans e2) _ fun p H3 hp e3 h3 => ⟨l, p, xs, ys, rfl, rfl, e3 _ _ h2, h3, sz_of hz, fun r hr => q r _ (fresh_back (e2.trans e3) hr) ((e2.trans e3).mut (fresh_back (e2.trans e3) hr)) upd_same⟩
theorem el_catR {m : Addr} (ha : Ev ta σ H (.ref m)) (hm : H m = some (.lst xs)) {l : Addr} (hb : Ev tb σ H (.ref l)) (hl : H l = some (.lst ys)) (hz : xs.length + ys.length ≤ 100000) : EvL (tOp rCat ta tb) σ H (xs ++ ys) := fun H1 e Q q =>
  ha H1 e _ fun H2 e2 => hb H2 (e.trans e2) _ fun H3 e3 => ⟨m, l, xs, ys, rfl, rfl, e3 _ _ (e2 _ _ (e _ _ hm)), e3 _ _ (e2 _ _ (e _ _ hl)), sz_of hz, fun r hr => q r _ (fresh_back (e2.trans e3) hr) ((e2.trans e3).mut (fresh_back (e2.trans e3) hr)) upd_same⟩
theorem el_rep {i : Int} (ha : EvL ta σ H xs) (hb : Ev tb σ H (.int i)) (h0 : 0 ≤ i) (h1 : i ≤ 1000) (h2 : xs.length ≤ 100) : EvL (tOp rRep ta tb) σ H (List.replicate i.toNat xs).flatten := fun H1 e Q q =>
  ha H1 e _ fun l H2 hl e2 g2 => hb H2 (e.trans e2) _ fun H3 e3 => ⟨l, i, xs, rfl, rfl, e3 _ _ g2, by omega, by omega, Nat.le_trans (Nat.mul_le_mul h2 (show i.toNat ≤ 1000 by omega)) (by decide), fun r hr => q r _ (fresh_back (e2.trans e3) hr) ((e2.trans e3).mut (fresh_back (e2.trans e3) hr)) upd_same⟩
/-- C(v) in a row of things that are made -/
theorem mkE1 {B n1 n2 : String} {bm : List Value} {f : Str} {v : V} {Q : VK} (T : OwnE K C B n1 n2 bm) (F : ExcC K C) (ht : PySem.W.takerIn K C f = some none) (ha : Ev ta σ H v) (q : ∀ a dx H2, Ex H H2 → H a = none → H2 a = some (exo a C (some dx)) → H2 dx = some (exd dx [(f, v)]) → Q (.ref a) H2) : tMkV C (spI1 K f) (tCons ta tNil) σ H Q :=
  ha H (Ex.refl H) _ fun H1 e1 => ⟨(by show 1 ≤ 1000; decide), fun a h1 => ⟨a, C, B, n1, n2, bm, v, rfl, T, ht, upd_same, fun dx hdx ne => ⟨rfl, by
    have hd1 : H1 dx = none := by rw [upd_ne ne] at hdx; exact hdx
    exact q a dx _ (((e1.mut (fresh_back e1 h1)).mut (fresh_back e1 hd1)).mut (fresh_back e1 h1)) (fresh_back e1 h1) upd_same (by rw [upd_ne ne, upd_same])⟩⟩⟩
theorem mkE2 {B n1 n2 : String} {bm : List Value} {f g : Str} {v u : V} {Q : VK} (T : OwnE K C B n1 n2 bm) (F : ExcC K C) (ht : PySem.W.takerIn K C f = some none) (hu : PySem.W.takerIn K C g = some none) (ha : Ev ta σ H v) (hb : ∀ H1, Ex H H1 → Ev tb σ H1 u)
    (q : ∀ a dx H2, Ex H H2 → H a = none → H2 a = some (exo a C (some dx)) → H2 dx = some (exd dx [(g, u), (f, v)]) → Q (.ref a) H2) : tMkV C (spI2 K f g) (tCons ta (tCons tb tNil)) σ H Q :=
  ha H (Ex.refl H) _ fun H0 e0 => hb H0 e0 H0 (Ex.refl H0) _ fun H1 e01 => ⟨(by show 2 ≤ 1000; decide), fun a h1 => ⟨a, C, B, n1, n2, bm, v, u, rfl, T, ht, hu, upd_same, fun dx hdx ne => ⟨rfl, by
    have e1 := e0.trans e01
    have hd1 : H1 dx = none := by rw [upd_ne ne] at hdx; exact hdx
    exact q a dx _ ((((e1.mut (fresh_back e1 h1)).mut (fresh_back e1 hd1)).mut (fresh_back e1 h1)).mut (fresh_back e1 hd1)) (fresh_back e1 h1) (by rw [upd_ne ne.symm, upd_same]) upd_same⟩⟩⟩
theorem ev_fld {a dx : Addr} {fs : List (Str × V)} {v : V} {f : Str} (hx : Ev te σ H (.ref a)) (F : ExcC K C) (no : PySem.W.findIn K (.ref C) f = some none) (ea : H a = some (exo a C (some dx))) (ed : H dx = some (exd dx fs)) (hl : fs.lookup f = some v) : Ev (tFldO K f te) σ H v := fun H1 e Q q =>
  hx H1 e _ fun H2 e2 => ⟨a, C, dx, fs, v, rfl, F, no, e2 _ _ (e _ _ ea), e2 _ _ (e _ _ ed), hl, q H2 e2⟩
end
section
variable {P : Program} {w : World} {K : PySem.W.Frag} {mg : Str → Option Value} {base : Heap} {C_NoName C_NoNumber C_NothingDone C_NoReader C_Twice C_NotJoined C_BadText C_BadLine : Addr}
abbrev s_L_sorts : Stmt := topS 15
theorem sc_L_sorts : FnScope ["_law_error", "_law_first", "_law_own"] ["_law_error"] (defScope s_L_sorts) := ⟨rfl, rfl, rfl, by decide +kernel, rfl, by decide +kernel, by decide +kernel⟩
def spSorts (K : PySem.W.Frag) (C_NoName C_NoNumber C_NothingDone C_NoReader C_Twice C_NotJoined C_BadText C_BadLine : Addr) : Sp := fun vs H Q _ => ∃ (x : V) (C : Addr) (b0 b1 b2 b3 b4 b5 b6 b7 : Bool), vs = [x] ∧ Er K H x C ∧ PySem.W.kitOne K (.ref C) (.ref C_NoName) = some b0 ∧ PySem.W.kitOne K (.ref C) (.ref C_NoNumber) = some b1 ∧ PySem.W.kitOne K (.ref C) (.ref C_NothingDone) = some b2 ∧ PySem.W.kitOne K (.ref C) (.ref C_NoReader) = some b3 ∧ PySem.W.kitOne K (.ref C) (.ref C_Twice) = some b4 ∧ PySem.W.kitOne K (.ref C) (.ref C_NotJoined) = some b5 ∧ PySem.W.kitOne K (.ref C) (.ref C_BadText) = some b6 ∧ PySem.W.kitOne K (.ref C) (.ref C_BadLine) = some b7 ∧ ((List.range 8).filter fun i => [b0, b1, b2, b3, b4, b5, b6, b7].getD i false).length = 1 ∧ ∀ H', Ex H H' → Q (.int 1) H'
theorem ok_sorts (X : Tx K mg "_law_sorts" ["_law_error"] s_L_sorts) (T : Bt mg) (O_NoName : Oc P w K mg base "NoName" ["self", "name"] (spI1 K "name") C_NoName) (O_NoNumber : Oc P w K mg base "NoNumber" ["self", "number"] (spI1 K "number") C_NoNumber) (O_NothingDone : O0 K mg "NothingDone" C_NothingDone) (O_NoReader : O0 K mg "NoReader" C_NoReader) (O_Twice : Oc P w K mg base "Twice" ["self", "name"] (spI1 K "name") C_Twice) (O_NotJoined : Oc P w K mg base "NotJoined" ["self", "one", "other"] (spI2 K "one" "other") C_NotJoined) (O_BadText : O0 K mg "BadText" C_BadText) (O_BadLine : Oc P w K mg base "BadLine" ["self", "number"] (spI1 K "number") C_BadLine) : Df P w K mg base 1 "_law_sorts" ["_law_error"] (spSorts K C_NoName C_NoNumber C_NothingDone C_NoReader C_Twice C_NotJoined C_BadText C_BadLine) := by
  refine X.ok sc_L_sorts (fun vs H Q E h => ?_) (fun f cdv A outer s H vs Q E hr h => ?_)
  · obtain ⟨x, C, _, _, _, _, _, _, _, _, rfl, _⟩ := h
    rfl
  · obtain ⟨x, C, b0, b1, b2, b3, b4, b5, b6, b7, rfl, hE, k0, k1, k2, k3, k4, k5, k6, k7, hb, q⟩ := h
    refine ⟨_, (pss_cons (ps_set (i := 1) sc_L_sorts.nd rfl (Or.inl rfl) (pe_lst (pa_cons (pe_callB (isOwS K) (by rfl) T.isinstance boot_isinstance (pa_cons (pv 0) (pa_cons (pe_glob (v := .ref C_NoName) (by rfl) O_NoName.m rfl) pa_nil))) (pa_cons (pe_callB (isOwS K) (by rfl) T.isinstance boot_isinstance (pa_cons (pv 0) (pa_cons (pe_glob (v := .ref C_NoNumber) (by rfl) O_NoNumber.m rfl) pa_nil))) (pa_cons (pe_callB (isOwS K) (by rfl) T.isinstance boot_isinstance (pa_cons (pv 0) (pa_cons (pe_glob (v := .ref C_NothingDone) (by rfl) O_NothingDone.m rfl) pa_nil))) pa_nil))))) (pss_cons (ps_expr (pe_bm PySem.F.plainAttrs_list PySem.F.slot_list_append PySem.F.type_list_append mt_append (pv 1) (pa_cons (pe_callB (isOwS K) (by rfl) T.isinstance boot_isinstance (pa_cons (pv 0) (pa_cons (pe_glob (v := .ref C_NoReader) (by rfl) O_NoReader.m rfl) pa_nil))) pa_nil))) (pss_cons (ps_set (i := 1) sc_L_sorts.nd rfl (Or.inl rfl) (pe_op op_cat (pv 1) (pe_lst (pa_cons (pe_callB (isOwS K) (by rfl) T.isinstance boot_isinstance (pa_cons (pv 0) (pa_cons (pe_glob (v := .ref C_Twice) (by rfl) O_Twice.m rfl) pa_nil))) (pa_cons (pe_callB (isOwS K) (by rfl) T.isinstance boot_isinstance (pa_cons (pv 0) (pa_cons (pe_glob (v := .ref C_NotJoined) (by rfl) O_NotJoined.m rfl) pa_nil))) (pa_cons (pe_callB (isOwS K) (by rfl) T.isinstance boot_isinstance (pa_cons (pv 0) (pa_cons (pe_glob (v := .ref C_BadText) (by rfl) O_BadText.m rfl) pa_nil))) pa_nil)))))) (pss_cons (ps_expr (pe_bm PySem.F.plainAttrs_list PySem.F.slot_list_append PySem.F.type_list_append mt_append (pv 1) (pa_cons (pe_callB (isOwS K) (by rfl) T.isinstance boot_isinstance (pa_cons (pv 0) (pa_cons (pe_glob (v := .ref C_BadLine) (by rfl) O_BadLine.m rfl) pa_nil))) pa_nil))) (pss_one (ps_ret (pe_callB (lenS K) (by rfl) T.len PySem.boot_len (pa_cons (pe_lc (own := [("_law_own", 2)]) (g := gName 2) (tt := _) rfl sc_L_sorts.nd (piList K (pv 1)) (blkOk_by (N := ["_law_error", "_law_first", "_law_own"]) (sc := defScope s_L_sorts) (by decide +kernel)) (fun _ _ _ _ _ => (pg_name (i := 2) sc_L_sorts.nd rfl (Or.inl rfl) (hf := .inr rfl))) (fun _ _ _ _ _ => (pts_one (pt_val (pv 2)))) (fun _ _ _ _ _ => (pv 2))) pa_nil)))))))), ?_⟩
    have E1 : Ex H H := Ex.refl H
    refine q_asgL (el_lst (ea_cons (ev_isOw (ev_var rfl) ev_c (hE.mono E1) (fun u r => r) k0) (ea_cons (ev_isOw (ev_var rfl) ev_c (hE.mono E1) (fun u r => r) k1) (ea_cons (ev_isOw (ev_var rfl) ev_c (hE.mono E1) (fun u r => r) k2) ea_nil))) (by simp)) fun p H1 hp e1 h1 => ?_
    have E1 := e1
    refine q_app h1 (ev_var rfl) (ev_isOw (ev_var rfl) ev_c (hE.mono E1) (fun u r => r) k3) (by simp) fun H2 e2 => ?_
    have E1 : Ex H (upd H2 p (.lst ([.bl b0, .bl b1, .bl b2] ++ [.bl b3]))) := (e1.trans e2).mut hp
    refine q_asgL (el_cat (ev_var rfl) upd_same (el_lst (ea_cons (ev_isOw (ev_var rfl) ev_c (hE.mono E1) (fun u r => r) k4) (ea_cons (ev_isOw (ev_var rfl) ev_c (hE.mono E1) (fun u r => r) k5) (ea_cons (ev_isOw (ev_var rfl) ev_c (hE.mono E1) (fun u r => r) k6) ea_nil))) (by simp)) (by simp)) fun p3 H3 hp3 e3 h3 => ?_
    have hp3' : H p3 = none := fresh_back E1 hp3
    have E1 := E1.trans e3
    refine q_app h3 (ev_var rfl) (ev_isOw (ev_var rfl) ev_c (hE.mono E1) (fun u r => r) k7) (by simp) fun H4 e4 => ?_
    have E1 := (E1.trans e4).mut (o := .lst (([V.bl b0, .bl b1, .bl b2] ++ [.bl b3] ++ [.bl b4, .bl b5, .bl b6]) ++ [.bl b7])) hp3'
    refine s_ret (v := .int 1) (ev_is (ev_lenN (el_lcL (xs := [.bl b0, .bl b1, .bl b2, .bl b3, .bl b4, .bl b5, .bl b6, .bl b7]) (j := 2) (vs := [2]) (fun i => [b0, b1, b2, b3, b4, b5, b6, b7].getD i false) (fun i => .bl ([b0, b1, b2, b3, b4, b5, b6, b7].getD i false)) (ev_var rfl) (sq_of upd_same) (by simp) (fun x => rfl) (fun i x H5 e5 hx => ?_) (fun i x H5 e5 hx hf => ?_))) ?_) fun H5 e5 => q H5 (E1.trans e5)
    · match i, hx with
      | 0, hx => cases hx; exact et_B (ev_var rfl)
      | 1, hx => cases hx; exact et_B (ev_var rfl)
      | 2, hx => cases hx; exact et_B (ev_var rfl)
      | 3, hx => cases hx; exact et_B (ev_var rfl)
      | 4, hx => cases hx; exact et_B (ev_var rfl)
      | 5, hx => cases hx; exact et_B (ev_var rfl)
      | 6, hx => cases hx; exact et_B (ev_var rfl)
      | 7, hx => cases hx; exact et_B (ev_var rfl)
      | i + 8, hx => cases hx
    · match i, hx with
      | 0, hx => cases hx; exact ev_var rfl
      | 1, hx => cases hx; exact ev_var rfl
      | 2, hx => cases hx; exact ev_var rfl
      | 3, hx => cases hx; exact ev_var rfl
      | 4, hx => cases hx; exact ev_var rfl
      | 5, hx => cases hx; exact ev_var rfl
      | 6, hx => cases hx; exact ev_var rfl
      | 7, hx => cases hx; exact ev_var rfl
      | i + 8, hx => cases hx
    · show V.int ((given 8 _ _).length : Int) = .int 1
      unfold given
      rw [List.length_map, hb]
      rfl
end
end Law

namespace Law
open PySem PySem.Spec PyProof.Rows L2 DL
open Evl
open RZ
theorem q_mkL {ta : TA} {i : Nat} {tz : TS} {D : Ends} {σ : L2.St} {H : Hp} (h : ta σ H fun xs H1 => xs.length ≤ sizeLine ∧ ∀ p, H1 p = none → tz D (σ.set i (some (.ref p))) (upd H1 p (.lst xs))) : tSeq (tAsg (tLst ta) (gName i)) tz D σ H := h
theorem t_cons {ta : TE} {tr : TA} {σ : L2.St} {H : Hp} {Q : List V → Hp → Prop} (h : ta σ H fun x H1 => tr σ H1 fun xs H2 => Q (x :: xs) H2) : tCons ta tr σ H Q := h
theorem EvL.is {te : TE} {σ : L2.St} {H : Hp} {xs ys : List V} (h : EvL te σ H xs) (e : xs = ys) : EvL te σ H ys := e ▸ h
/-- which class is over which -/
structure KF (K : PySem.W.Frag) (C_NoName C_NoNumber C_NothingDone C_NoReader C_Twice C_NotJoined C_BadText C_BadLine : Addr) : Prop where
  l0 : PySem.W.kitOne K (.ref C_NoName) (.type "LookupError") = some true
  a0 : PySem.W.kitAny K (.ref C_NoName) [.type "KeyError", .type "IndexError"] = some false
  v0 : PySem.W.kitOne K (.ref C_NoName) (.type "ValueError") = some false
  k00 : PySem.W.kitOne K (.ref C_NoName) (.ref C_NoName) = some true
  k01 : PySem.W.kitOne K (.ref C_NoName) (.ref C_NoNumber) = some false
  k02 : PySem.W.kitOne K (.ref C_NoName) (.ref C_NothingDone) = some false
  k03 : PySem.W.kitOne K (.ref C_NoName) (.ref C_NoReader) = some false
  k04 : PySem.W.kitOne K (.ref C_NoName) (.ref C_Twice) = some false
  k05 : PySem.W.kitOne K (.ref C_NoName) (.ref C_NotJoined) = some false
  k06 : PySem.W.kitOne K (.ref C_NoName) (.ref C_BadText) = some false
  k07 : PySem.W.kitOne K (.ref C_NoName) (.ref C_BadLine) = some false
  l1 : PySem.W.kitOne K (.ref C_NoNumber) (.type "LookupError") = some true
  a1 : PySem.W.kitAny K (.ref C_NoNumber) [.type "KeyError", .type "IndexError"] = some false
  v1 : PySem.W.kitOne K (.ref C_NoNumber) (.type "ValueError") = some false
  k10 : PySem.W.kitOne K (.ref C_NoNumber) (.ref C_NoName) = some false
  k11 : PySem.W.kitOne K (.ref C_NoNumber) (.ref C_NoNumber) = some true
  k12 : PySem.W.kitOne K (.ref C_NoNumber) (.ref C_NothingDone) = some false
  k13 : PySem.W.kitOne K (.ref C_NoNumber) (.ref C_NoReader) = some false
  k14 : PySem.W.kitOne K (.ref C_NoNumber) (.ref C_Twice) = some false
  k15 : PySem.W.kitOne K (.ref C_NoNumber) (.ref C_NotJoined) = some false
  k16 : PySem.W.kitOne K (.ref C_NoNumber) (.ref C_BadText) = some false
  k17 : PySem.W.kitOne K (.ref C_NoNumber) (.ref C_BadLine) = some false
  l2 : PySem.W.kitOne K (.ref C_NothingDone) (.type "LookupError") = some true
  a2 : PySem.W.kitAny K (.ref C_NothingDone) [.type "KeyError", .type "IndexError"] = some false
  v2 : PySem.W.kitOne K (.ref C_NothingDone) (.type "ValueError") = some false
  k20 : PySem.W.kitOne K (.ref C_NothingDone) (.ref C_NoName) = some false
  k21 : PySem.W.kitOne K (.ref C_NothingDone) (.ref C_NoNumber) = some false
  k22 : PySem.W.kitOne K (.ref C_NothingDone) (.ref C_NothingDone) = some true
  k23 : PySem.W.kitOne K (.ref C_NothingDone) (.ref C_NoReader) = some false
  k24 : PySem.W.kitOne K (.ref C_NothingDone) (.ref C_Twice) = some false
  k25 : PySem.W.kitOne K (.ref C_NothingDone) (.ref C_NotJoined) = some false
  k26 : PySem.W.kitOne K (.ref C_NothingDone) (.ref C_BadText) = some false
  k27 : PySem.W.kitOne K (.ref C_NothingDone) (.ref C_BadLine) = some false
  l3 : PySem.W.kitOne K (.ref C_NoReader) (.type "LookupError") = some false
  v3 : PySem.W.kitOne K (.ref C_NoReader) (.type "ValueError") = some true
  k30 : PySem.W.kitOne K (.ref C_NoReader) (.ref C_NoName) = some false
  k31 : PySem.W.kitOne K (.ref C_NoReader) (.ref C_NoNumber) = some false
  k32 : PySem.W.kitOne K (.ref C_NoReader) (.ref C_NothingDone) = some false
  k33 : PySem.W.kitOne K (.ref C_NoReader) (.ref C_NoReader) = some true
  k34 : PySem.W.kitOne K (.ref C_NoReader) (.ref C_Twice) = some false
  k35 : PySem.W.kitOne K (.ref C_NoReader) (.ref C_NotJoined) = some false
  k36 : PySem.W.kitOne K (.ref C_NoReader) (.ref C_BadText) = some false
  k37 : PySem.W.kitOne K (.ref C_NoReader) (.ref C_BadLine) = some false
  l4 : PySem.W.kitOne K (.ref C_Twice) (.type "LookupError") = some false
  v4 : PySem.W.kitOne K (.ref C_Twice) (.type "ValueError") = some true
  k40 : PySem.W.kitOne K (.ref C_Twice) (.ref C_NoName) = some false
  k41 : PySem.W.kitOne K (.ref C_Twice) (.ref C_NoNumber) = some false
  k42 : PySem.W.kitOne K (.ref C_Twice) (.ref C_NothingDone) = some false
  k43 : PySem.W.kitOne K (.ref C_Twice) (.ref C_NoReader) = some false
  k44 : PySem.W.kitOne K (.ref C_Twice) (.ref C_Twice) = some true
  k45 : PySem.W.kitOne K (.ref C_Twice) (.ref C_NotJoined) = some false
  k46 : PySem.W.kitOne K (.ref C_Twice) (.ref C_BadText) = some false
  k47 : PySem.W.kitOne K (.ref C_Twice) (.ref C_BadLine) = some false
  l5 : PySem.W.kitOne K (.ref C_NotJoined) (.type "LookupError") = some false
  v5 : PySem.W.kitOne K (.ref C_NotJoined) (.type "ValueError") = some true
  k50 : PySem.W.kitOne K (.ref C_NotJoined) (.ref C_NoName) = some false
  k51 : PySem.W.kitOne K (.ref C_NotJoined) (.ref C_NoNumber) = some false
  k52 : PySem.W.kitOne K (.ref C_NotJoined) (.ref C_NothingDone) = some false
  k53 : PySem.W.kitOne K (.ref C_NotJoined) (.ref C_NoReader) = some false
  k54 : PySem.W.kitOne K (.ref C_NotJoined) (.ref C_Twice) = some false
  k55 : PySem.W.kitOne K (.ref C_NotJoined) (.ref C_NotJoined) = some true
  k56 : PySem.W.kitOne K (.ref C_NotJoined) (.ref C_BadText) = some false
  k57 : PySem.W.kitOne K (.ref C_NotJoined) (.ref C_BadLine) = some false
  l6 : PySem.W.kitOne K (.ref C_BadText) (.type "LookupError") = some false
  v6 : PySem.W.kitOne K (.ref C_BadText) (.type "ValueError") = some true
  k60 : PySem.W.kitOne K (.ref C_BadText) (.ref C_NoName) = some false
  k61 : PySem.W.kitOne K (.ref C_BadText) (.ref C_NoNumber) = some false
  k62 : PySem.W.kitOne K (.ref C_BadText) (.ref C_NothingDone) = some false
  k63 : PySem.W.kitOne K (.ref C_BadText) (.ref C_NoReader) = some false
  k64 : PySem.W.kitOne K (.ref C_BadText) (.ref C_Twice) = some false
  k65 : PySem.W.kitOne K (.ref C_BadText) (.ref C_NotJoined) = some false
  k66 : PySem.W.kitOne K (.ref C_BadText) (.ref C_BadText) = some true
  k67 : PySem.W.kitOne K (.ref C_BadText) (.ref C_BadLine) = some false
  l7 : PySem.W.kitOne K (.ref C_BadLine) (.type "LookupError") = some false
  v7 : PySem.W.kitOne K (.ref C_BadLine) (.type "ValueError") = some true
  k70 : PySem.W.kitOne K (.ref C_BadLine) (.ref C_NoName) = some false
  k71 : PySem.W.kitOne K (.ref C_BadLine) (.ref C_NoNumber) = some false
  k72 : PySem.W.kitOne K (.ref C_BadLine) (.ref C_NothingDone) = some false
  k73 : PySem.W.kitOne K (.ref C_BadLine) (.ref C_NoReader) = some false
  k74 : PySem.W.kitOne K (.ref C_BadLine) (.ref C_Twice) = some false
  k75 : PySem.W.kitOne K (.ref C_BadLine) (.ref C_NotJoined) = some false
  k76 : PySem.W.kitOne K (.ref C_BadLine) (.ref C_BadText) = some false
  k77 : PySem.W.kitOne K (.ref C_BadLine) (.ref C_BadLine) = some true
  t_NoName_name : PySem.W.takerIn K C_NoName "name" = some none
  n_NoName_name : PySem.W.findIn K (.ref C_NoName) "name" = some none
  t_NoNumber_number : PySem.W.takerIn K C_NoNumber "number" = some none
  n_NoNumber_number : PySem.W.findIn K (.ref C_NoNumber) "number" = some none
  t_Twice_name : PySem.W.takerIn K C_Twice "name" = some none
  n_Twice_name : PySem.W.findIn K (.ref C_Twice) "name" = some none
  t_BadLine_number : PySem.W.takerIn K C_BadLine "number" = some none
  n_BadLine_number : PySem.W.findIn K (.ref C_BadLine) "number" = some none
  t_NotJoined_one : PySem.W.takerIn K C_NotJoined "one" = some none
  n_NotJoined_one : PySem.W.findIn K (.ref C_NotJoined) "one" = some none
  t_NotJoined_other : PySem.W.takerIn K C_NotJoined "other" = some none
  n_NotJoined_other : PySem.W.findIn K (.ref C_NotJoined) "other" = some none
section
variable {P : Program} {w : World} {K : PySem.W.Frag} {mg : Str → Option Value} {base : Heap} {C_NoName C_NoNumber C_NothingDone C_NoReader C_Twice C_NotJoined C_BadText C_BadLine : Addr}
theorem Er.mk0 {H : Hp} {a C : Addr} (F : ExcC K C) (h : H a = some (exo a C none)) : Er K H (.ref a) C := ⟨a, none, rfl, F, h, fun _ z => nomatch z⟩
theorem Er.mk1 {H : Hp} {a C dx : Addr} {fs : List (Str × V)} (F : ExcC K C) (h : H a = some (exo a C (some dx))) (hd : H dx = some (exd dx fs)) : Er K H (.ref a) C := ⟨a, some dx, rfl, F, h, fun _ z => ⟨fs, by cases z; exact hd⟩⟩
abbrev s_L_hand_right : Stmt := topS 16
theorem sc_L_hand_right : FnScope ["_law_lost", "_law_bad", "_law_got", "_law_due", "_law_own"] [] (defScope s_L_hand_right) := ⟨rfl, rfl, rfl, by decide +kernel, rfl, by decide +kernel, by decide +kernel⟩
theorem ok_hand (X : Tx K mg "_law_hand_right" [] s_L_hand_right) (T : Bt mg) (KK : KF K C_NoName C_NoNumber C_NothingDone C_NoReader C_Twice C_NotJoined C_BadText C_BadLine) (O_NoName : Oc P w K mg base "NoName" ["self", "name"] (spI1 K "name") C_NoName) (O_NoNumber : Oc P w K mg base "NoNumber" ["self", "number"] (spI1 K "number") C_NoNumber) (O_NothingDone : O0 K mg "NothingDone" C_NothingDone) (O_NoReader : O0 K mg "NoReader" C_NoReader) (O_Twice : Oc P w K mg base "Twice" ["self", "name"] (spI1 K "name") C_Twice) (O_NotJoined : Oc P w K mg base "NotJoined" ["self", "one", "other"] (spI2 K "one" "other") C_NotJoined) (O_BadText : O0 K mg "BadText" C_BadText) (O_BadLine : Oc P w K mg base "BadLine" ["self", "number"] (spI1 K "number") C_BadLine) (D_L_same : Df P w K mg base 3 "_law_same" ["_law_got", "_law_due"] (spD K 2 (domSame 3))) (D_L_sorts : Df P w K mg base 1 "_law_sorts" ["_law_error"] (spSorts K C_NoName C_NoNumber C_NothingDone C_NoReader C_Twice C_NotJoined C_BadText C_BadLine)) :
    Df P w K mg base 4 "_law_hand_right" [] (spD K 0 fun ds r => ds = [] ∧ r = .bool true) := by
  refine X.ok sc_L_hand_right (fun vs H Q E h => h.1.trans rfl) (fun f cdv A outer s H vs Q E hr h => ?_)
  obtain ⟨hl, Hd, ds, r, e, hd, ⟨rfl, rfl⟩, q⟩ := h
  cases hd
  obtain ⟨B0, p0, q0, bm0, T0⟩ := O_NoName.own
  obtain ⟨B1, p1, q1, bm1, T1⟩ := O_NoNumber.own
  obtain ⟨B4, p4, q4, bm4, T4⟩ := O_Twice.own
  obtain ⟨B5, p5, q5, bm5, T5⟩ := O_NotJoined.own
  obtain ⟨B7, p7, q7, bm7, T7⟩ := O_BadLine.own
  refine ⟨_, (pss_cons (ps_set (i := 0) sc_L_hand_right.nd rfl (Or.inl rfl) (pe_lst (pa_cons (pe_oc O_NoName hr (by omega) (pa_cons pe_str pa_nil)) (pa_cons (pe_oc O_NoNumber hr (by omega) (pa_cons (pe_un un_neg pe_int) pa_nil)) (pa_cons (pe_o0 O_NothingDone) pa_nil))))) (pss_cons (ps_set (i := 1) sc_L_hand_right.nd rfl (Or.inl rfl) (pe_lst (pa_cons (pe_o0 O_NoReader) (pa_cons (pe_oc O_Twice hr (by omega) (pa_cons pe_str pa_nil)) (pa_cons (pe_oc O_NotJoined hr (by omega) (pa_cons pe_str (pa_cons pe_str pa_nil))) (pa_cons (pe_o0 O_BadText) (pa_cons (pe_oc O_BadLine hr (by omega) (pa_cons pe_int pa_nil)) pa_nil))))))) (pss_cons (ps_set (i := 2) sc_L_hand_right.nd rfl (Or.inl rfl) (pe_lst (pa_cons (pe_fldO (pe_ix (ixS K) (pv 0) pe_int (fun _ _ => rfl))) (pa_cons (pe_fldO (pe_ix (ixS K) (pv 0) pe_int (fun _ _ => rfl))) (pa_cons (pe_fldO (pe_ix (ixS K) (pv 1) pe_int (fun _ _ => rfl))) (pa_cons (pe_fldO (pe_ix (ixS K) (pv 1) pe_int (fun _ _ => rfl))) (pa_cons (pe_fldO (pe_ix (ixS K) (pv 1) pe_int (fun _ _ => rfl))) (pa_cons (pe_fldO (pe_ix (ixS K) (pv 1) pe_int (fun _ _ => rfl))) pa_nil)))))))) (pss_cons (ps_set (i := 3) sc_L_hand_right.nd rfl (Or.inl rfl) (pe_lst (pa_cons pe_str (pa_cons (pe_un un_neg pe_int) (pa_cons pe_str (pa_cons pe_str (pa_cons pe_str (pa_cons pe_int pa_nil)))))))) (pss_cons (ps_set (i := 2) sc_L_hand_right.nd rfl (Or.inl rfl) (pe_op op_cat (pv 2) (pe_lc (own := [("_law_own", 4)]) (g := gName 4) (tt := tYes) rfl sc_L_hand_right.nd (piList K (pe_op op_cat (pv 0) (pv 1))) (blkOk_by (N := ["_law_lost", "_law_bad", "_law_got", "_law_due", "_law_own"]) (sc := defScope s_L_hand_right) (by decide +kernel)) (fun _ _ _ _ _ => (pg_name (i := 4) sc_L_hand_right.nd rfl (Or.inl rfl) (hf := .inr rfl))) (fun _ _ _ _ _ => pts_nil) (fun _ _ _ _ _ => (pe_and (pe_callB (isOwS K) (by rfl) T.isinstance boot_isinstance (pa_cons (pv 4) (pa_cons (pe_bltn (v := .ty "LookupError") (by rfl) T.lookupError (by decide +kernel) rfl) pa_nil))) (pe_one (pe_not (pe_callB (isOTS K) (by rfl) T.isinstance boot_isinstance (pa_cons (pv 4) (pa_cons (pe_tup (pa_cons (pe_bltn (v := .ty "KeyError") (by rfl) T.keyError (by decide +kernel) rfl) (pa_cons (pe_bltn (v := .ty "IndexError") (by rfl) T.indexError (by decide +kernel) rfl) pa_nil))) pa_nil)))))))))) (pss_cons (ps_set (i := 2) sc_L_hand_right.nd rfl (Or.inl rfl) (pe_op op_cat (pe_op op_cat (pv 2) (pe_lc (own := [("_law_own", 4)]) (g := gName 4) (tt := tYes) rfl sc_L_hand_right.nd (piList K (pe_op op_cat (pv 0) (pv 1))) (blkOk_by (N := ["_law_lost", "_law_bad", "_law_got", "_law_due", "_law_own"]) (sc := defScope s_L_hand_right) (by decide +kernel)) (fun _ _ _ _ _ => (pg_name (i := 4) sc_L_hand_right.nd rfl (Or.inl rfl) (hf := .inr rfl))) (fun _ _ _ _ _ => pts_nil) (fun _ _ _ _ _ => (pe_callB (isOwS K) (by rfl) T.isinstance boot_isinstance (pa_cons (pv 4) (pa_cons (pe_bltn (v := .ty "ValueError") (by rfl) T.valueError (by decide +kernel) rfl) pa_nil)))))) (pe_lc (own := [("_law_own", 4)]) (g := gName 4) (tt := tYes) rfl sc_L_hand_right.nd (piList K (pe_op op_cat (pv 0) (pv 1))) (blkOk_by (N := ["_law_lost", "_law_bad", "_law_got", "_law_due", "_law_own"]) (sc := defScope s_L_hand_right) (by decide +kernel)) (fun _ _ _ _ _ => (pg_name (i := 4) sc_L_hand_right.nd rfl (Or.inl rfl) (hf := .inr rfl))) (fun _ _ _ _ _ => pts_nil) (fun _ _ _ _ _ => (pe_def D_L_sorts hr (by omega) (pa_cons (pv 4) pa_nil)))))) (pss_one (ps_ret (pe_def D_L_same hr (by omega) (pa_cons (pv 2) (pa_cons (pe_op op_cat (pe_op op_cat (pe_op op_cat (pe_op op_cat (pv 3) (pe_op op_rep (pe_lst (pa_cons pe_bl pa_nil)) pe_int)) (pe_op op_rep (pe_lst (pa_cons pe_bl pa_nil)) pe_int)) (pe_op op_rep (pe_lst (pa_cons pe_bl pa_nil)) pe_int)) (pe_op op_rep (pe_lst (pa_cons pe_int pa_nil)) pe_int)) pa_nil))))))))))), ?_⟩
  refine q_mkL (t_cons ?_)
  refine mkE1 T0 O_NoName.xc KK.t_NoName_name ev_c fun a0 d0 H1 e1 n0 x0 y0 => ?_
  refine t_cons ?_
  refine mkE1 T1 O_NoNumber.xc KK.t_NoNumber_number (ev_un ev_c ru_neg) fun a1 d1 H2 e2 n1 x1 y1 => ?_
  refine t_cons ?_
  refine fun a2 n2 => ?_
  refine ⟨(by show 3 ≤ sizeLine; decide), fun L hL => ?_⟩
  refine q_mkL (t_cons ?_)
  refine fun a3 n3 => ?_
  refine t_cons ?_
  refine mkE1 T4 O_Twice.xc KK.t_Twice_name ev_c fun a4 d4 H4 e4 n4 x4 y4 => ?_
  refine t_cons ?_
  refine mkE2 T5 O_NotJoined.xc KK.t_NotJoined_one KK.t_NotJoined_other ev_c (fun _ _ => ev_c) fun a5 d5 H5 e5 n5 x5 y5 => ?_
  refine t_cons ?_
  refine fun a6 n6 => ?_
  refine t_cons ?_
  refine mkE1 T7 O_BadLine.xc KK.t_BadLine_number ev_c fun a7 d7 H7 e7 n7 x7 y7 => ?_
  refine ⟨(by show 5 ≤ sizeLine; decide), fun M hM => ?_⟩
  have f2 := Ex.new (o := exo a2 C_NothingDone none) n2
  have fL := Ex.new (o := .lst [.ref a0, .ref a1, .ref a2]) hL
  have f3 := Ex.new (o := exo a3 C_NoReader none) n3
  have f6 := Ex.new (o := exo a6 C_BadText none) n6
  have fM := Ex.new (o := .lst [.ref a3, .ref a4, .ref a5, .ref a6, .ref a7]) hM
  have g7 := fM
  have g6 := e7.trans fM
  have g5 := f6.trans g6
  have g4 := e5.trans g5
  have g3 := e4.trans g4
  have gL := f3.trans g3
  have g2 := fL.trans gL
  have g1 := f2.trans g2
  have g0 := e2.trans g1
  have gg := e1.trans g0
  have m0 := Er.mk1 O_NoName.xc (g0 _ _ x0) (g0 _ _ y0)
  have m1 := Er.mk1 O_NoNumber.xc (g1 _ _ x1) (g1 _ _ y1)
  have m2 := Er.mk0 O_NothingDone.xc (g2 _ _ upd_same)
  have m3 := Er.mk0 O_NoReader.xc (g3 _ _ upd_same)
  have m4 := Er.mk1 O_Twice.xc (g4 _ _ x4) (g4 _ _ y4)
  have m5 := Er.mk1 O_NotJoined.xc (g5 _ _ x5) (g5 _ _ y5)
  have m6 := Er.mk0 O_BadText.xc (g6 _ _ upd_same)
  have m7 := Er.mk1 O_BadLine.xc (g7 _ _ x7) (g7 _ _ y7)
  have hLl := gL _ _ (upd_same (H := upd H2 a2 (exo a2 C_NothingDone none)) (a := L) (o := .lst [.ref a0, .ref a1, .ref a2]))
  have hMl := upd_same (H := H7) (a := M) (o := .lst [.ref a3, .ref a4, .ref a5, .ref a6, .ref a7])
  have X0 := g0 _ _ x0
  have Y0 := g0 _ _ y0
  have X1 := g1 _ _ x1
  have Y1 := g1 _ _ y1
  have X4 := g4 _ _ x4
  have Y4 := g4 _ _ y4
  have X5 := g5 _ _ x5
  have Y5 := g5 _ _ y5
  have X7 := g7 _ _ x7
  have Y7 := g7 _ _ y7
  generalize hHc : upd H7 M (.lst [.ref a3, .ref a4, .ref a5, .ref a6, .ref a7]) = Hc at *
  refine q_asgL (el_lst (ea_cons (ev_fld (ev_op (ev_var rfl) ev_c (fun H1 e Q q => .inl (rv_ixL (sq_of hLl) (by rfl) H1 e Q q))) O_NoName.xc KK.n_NoName_name X0 Y0 (by rfl)) (ea_cons (ev_fld (ev_op (ev_var rfl) ev_c (fun H1 e Q q => .inl (rv_ixL (sq_of hLl) (by rfl) H1 e Q q))) O_NoNumber.xc KK.n_NoNumber_number X1 Y1 (by rfl)) (ea_cons (ev_fld (ev_op (ev_var rfl) ev_c (fun H1 e Q q => .inl (rv_ixL (sq_of hMl) (by rfl) H1 e Q q))) O_Twice.xc KK.n_Twice_name X4 Y4 (by rfl)) (ea_cons (ev_fld (ev_op (ev_var rfl) ev_c (fun H1 e Q q => .inl (rv_ixL (sq_of hMl) (by rfl) H1 e Q q))) O_NotJoined.xc KK.n_NotJoined_one X5 Y5 (by rfl)) (ea_cons (ev_fld (ev_op (ev_var rfl) ev_c (fun H1 e Q q => .inl (rv_ixL (sq_of hMl) (by rfl) H1 e Q q))) O_NotJoined.xc KK.n_NotJoined_other X5 Y5 (by rfl)) (ea_cons (ev_fld (ev_op (ev_var rfl) ev_c (fun H1 e Q q => .inl (rv_ixL (sq_of hMl) (by rfl) H1 e Q q))) O_BadLine.xc KK.n_BadLine_number X7 Y7 (by rfl)) ea_nil)))))) (by simp)) fun G1 J1 hG1 i1 l1 => ?_
  refine q_asgL (el_lst (ea_cons ev_c (ea_cons (ev_un ev_c ru_neg) (ea_cons ev_c (ea_cons ev_c (ea_cons ev_c (ea_cons ev_c ea_nil)))))) (by simp)) fun G2 J2 hG2 i2 l2 => ?_
  have i12 := i1.trans i2
  refine q_asgL (xs := [.str "q", .int (-1), .str "z", .str "a", .str "b", .int 4] ++ [.bl true, .bl true, .bl true, .bl false, .bl false, .bl false, .bl false, .bl false]) (el_cat (ev_var rfl) (i2 _ _ l1) (EvL.is (el_lcNL (xs := [.ref a0, .ref a1, .ref a2, .ref a3, .ref a4, .ref a5, .ref a6, .ref a7]) (j := 4) (vs := [4]) (fun _ => true) (fun i => .bl ([true, true, true, false, false, false, false, false].getD i false)) (el_catR (ev_var rfl) (i12 _ _ hLl) (ev_var rfl) (i12 _ _ hMl) (by simp)) (by simp) (fun x => rfl) (fun i x H5 e5 hx => fun H1 _ Q q => q H1 (Ex.refl H1)) (fun i x H5 e5 hx _ => ?x1)) rfl) (by simp)) fun G3 J3 hG3 i3 l3 => ?_
  case x1 =>
    have z := i12.trans e5
    match i, hx with
      | 0, hx => cases hx; exact ev_andV (ev_isOw (c := .ty "LookupError") (cv := .type "LookupError") (b := true) (ev_var rfl) ev_c (m0.mono z) (fun u r => r) KK.l0) fun _ => ev_notV (ev_isOT (ev_var rfl) (m0.mono z) KK.a0)
      | 1, hx => cases hx; exact ev_andV (ev_isOw (c := .ty "LookupError") (cv := .type "LookupError") (b := true) (ev_var rfl) ev_c (m1.mono z) (fun u r => r) KK.l1) fun _ => ev_notV (ev_isOT (ev_var rfl) (m1.mono z) KK.a1)
      | 2, hx => cases hx; exact ev_andV (ev_isOw (c := .ty "LookupError") (cv := .type "LookupError") (b := true) (ev_var rfl) ev_c (m2.mono z) (fun u r => r) KK.l2) fun _ => ev_notV (ev_isOT (ev_var rfl) (m2.mono z) KK.a2)
      | 3, hx => cases hx; exact ev_is (ev_andV (b := true) (ev_isOw (c := .ty "LookupError") (cv := .type "LookupError") (b := false) (ev_var rfl) ev_c (m3.mono z) (fun u r => r) KK.l3) fun hh => nomatch hh) rfl
      | 4, hx => cases hx; exact ev_is (ev_andV (b := true) (ev_isOw (c := .ty "LookupError") (cv := .type "LookupError") (b := false) (ev_var rfl) ev_c (m4.mono z) (fun u r => r) KK.l4) fun hh => nomatch hh) rfl
      | 5, hx => cases hx; exact ev_is (ev_andV (b := true) (ev_isOw (c := .ty "LookupError") (cv := .type "LookupError") (b := false) (ev_var rfl) ev_c (m5.mono z) (fun u r => r) KK.l5) fun hh => nomatch hh) rfl
      | 6, hx => cases hx; exact ev_is (ev_andV (b := true) (ev_isOw (c := .ty "LookupError") (cv := .type "LookupError") (b := false) (ev_var rfl) ev_c (m6.mono z) (fun u r => r) KK.l6) fun hh => nomatch hh) rfl
      | 7, hx => cases hx; exact ev_is (ev_andV (b := true) (ev_isOw (c := .ty "LookupError") (cv := .type "LookupError") (b := false) (ev_var rfl) ev_c (m7.mono z) (fun u r => r) KK.l7) fun hh => nomatch hh) rfl
      | i + 8, hx => cases hx
  have i13 := i12.trans i3
  refine q_asgL (xs := (([.str "q", .int (-1), .str "z", .str "a", .str "b", .int 4] ++ [.bl true, .bl true, .bl true, .bl false, .bl false, .bl false, .bl false, .bl false]) ++ [.bl false, .bl false, .bl false, .bl true, .bl true, .bl true, .bl true, .bl true]) ++ [.int 1, .int 1, .int 1, .int 1, .int 1, .int 1, .int 1, .int 1]) (el_catL (el_cat (ev_var rfl) l3 (EvL.is (el_lcNL (xs := [.ref a0, .ref a1, .ref a2, .ref a3, .ref a4, .ref a5, .ref a6, .ref a7]) (j := 4) (vs := [4]) (fun _ => true) (fun i => .bl ([false, false, false, true, true, true, true, true].getD i false)) (el_catR (ev_var rfl) (i13 _ _ hLl) (ev_var rfl) (i13 _ _ hMl) (by simp)) (by simp) (fun x => rfl) (fun i x H5 e5 hx => fun H1 _ Q q => q H1 (Ex.refl H1)) (fun i x H5 e5 hx _ => ?x2)) rfl) (by simp)) (EvL.is (el_lcNL (xs := [.ref a0, .ref a1, .ref a2, .ref a3, .ref a4, .ref a5, .ref a6, .ref a7]) (j := 4) (vs := [4]) (fun _ => true) (fun i => .int 1) (el_catR (ev_var rfl) (i13 _ _ hLl) (ev_var rfl) (i13 _ _ hMl) (by simp)) (by simp) (fun x => rfl) (fun i x H5 e5 hx => fun H1 _ Q q => q H1 (Ex.refl H1)) (fun i x H5 e5 hx _ => ?x3)) rfl) (by simp)) fun G4 J4 hG4 i4 l4 => ?_
  case x2 =>
    have z := i13.trans e5
    match i, hx with
      | 0, hx => cases hx; exact ev_isOw (c := .ty "ValueError") (cv := .type "ValueError") (ev_var rfl) ev_c (m0.mono z) (fun u r => r) KK.v0
      | 1, hx => cases hx; exact ev_isOw (c := .ty "ValueError") (cv := .type "ValueError") (ev_var rfl) ev_c (m1.mono z) (fun u r => r) KK.v1
      | 2, hx => cases hx; exact ev_isOw (c := .ty "ValueError") (cv := .type "ValueError") (ev_var rfl) ev_c (m2.mono z) (fun u r => r) KK.v2
      | 3, hx => cases hx; exact ev_isOw (c := .ty "ValueError") (cv := .type "ValueError") (ev_var rfl) ev_c (m3.mono z) (fun u r => r) KK.v3
      | 4, hx => cases hx; exact ev_isOw (c := .ty "ValueError") (cv := .type "ValueError") (ev_var rfl) ev_c (m4.mono z) (fun u r => r) KK.v4
      | 5, hx => cases hx; exact ev_isOw (c := .ty "ValueError") (cv := .type "ValueError") (ev_var rfl) ev_c (m5.mono z) (fun u r => r) KK.v5
      | 6, hx => cases hx; exact ev_isOw (c := .ty "ValueError") (cv := .type "ValueError") (ev_var rfl) ev_c (m6.mono z) (fun u r => r) KK.v6
      | 7, hx => cases hx; exact ev_isOw (c := .ty "ValueError") (cv := .type "ValueError") (ev_var rfl) ev_c (m7.mono z) (fun u r => r) KK.v7
      | i + 8, hx => cases hx
  case x3 =>
    have z := i13.trans e5
    match i, hx with
      | 0, hx => cases hx; exact ev_call (ea_cons (ev_var rfl) ea_nil) fun H6 e6 Q q E => ⟨_, C_NoName, true, false, false, false, false, false, false, false, rfl, m0.mono (z.trans e6), KK.k00, KK.k01, KK.k02, KK.k03, KK.k04, KK.k05, KK.k06, KK.k07, by decide, q⟩
      | 1, hx => cases hx; exact ev_call (ea_cons (ev_var rfl) ea_nil) fun H6 e6 Q q E => ⟨_, C_NoNumber, false, true, false, false, false, false, false, false, rfl, m1.mono (z.trans e6), KK.k10, KK.k11, KK.k12, KK.k13, KK.k14, KK.k15, KK.k16, KK.k17, by decide, q⟩
      | 2, hx => cases hx; exact ev_call (ea_cons (ev_var rfl) ea_nil) fun H6 e6 Q q E => ⟨_, C_NothingDone, false, false, true, false, false, false, false, false, rfl, m2.mono (z.trans e6), KK.k20, KK.k21, KK.k22, KK.k23, KK.k24, KK.k25, KK.k26, KK.k27, by decide, q⟩
      | 3, hx => cases hx; exact ev_call (ea_cons (ev_var rfl) ea_nil) fun H6 e6 Q q E => ⟨_, C_NoReader, false, false, false, true, false, false, false, false, rfl, m3.mono (z.trans e6), KK.k30, KK.k31, KK.k32, KK.k33, KK.k34, KK.k35, KK.k36, KK.k37, by decide, q⟩
      | 4, hx => cases hx; exact ev_call (ea_cons (ev_var rfl) ea_nil) fun H6 e6 Q q E => ⟨_, C_Twice, false, false, false, false, true, false, false, false, rfl, m4.mono (z.trans e6), KK.k40, KK.k41, KK.k42, KK.k43, KK.k44, KK.k45, KK.k46, KK.k47, by decide, q⟩
      | 5, hx => cases hx; exact ev_call (ea_cons (ev_var rfl) ea_nil) fun H6 e6 Q q E => ⟨_, C_NotJoined, false, false, false, false, false, true, false, false, rfl, m5.mono (z.trans e6), KK.k50, KK.k51, KK.k52, KK.k53, KK.k54, KK.k55, KK.k56, KK.k57, by decide, q⟩
      | 6, hx => cases hx; exact ev_call (ea_cons (ev_var rfl) ea_nil) fun H6 e6 Q q E => ⟨_, C_BadText, false, false, false, false, false, false, true, false, rfl, m6.mono (z.trans e6), KK.k60, KK.k61, KK.k62, KK.k63, KK.k64, KK.k65, KK.k66, KK.k67, by decide, q⟩
      | 7, hx => cases hx; exact ev_call (ea_cons (ev_var rfl) ea_nil) fun H6 e6 Q q E => ⟨_, C_BadLine, false, false, false, false, false, false, false, true, rfl, m7.mono (z.trans e6), KK.k70, KK.k71, KK.k72, KK.k73, KK.k74, KK.k75, KK.k76, KK.k77, by decide, q⟩
      | i + 8, hx => cases hx
  have i14 := i13.trans i4
  refine ⟨_, rfl, ?_⟩
  refine (el_catL (el_catL (el_catL (el_cat (ev_var rfl) (i4 _ _ (i3 _ _ l2)) (el_rep (el_lst (ea_cons ev_c ea_nil) (by simp)) ev_c (by decide) (by decide) (by simp)) (by decide)) (el_rep (el_lst (ea_cons ev_c ea_nil) (by simp)) ev_c (by decide) (by decide) (by simp)) (by decide)) (el_rep (el_lst (ea_cons ev_c ea_nil) (by simp)) ev_c (by decide) (by decide) (by simp)) (by decide)) (el_rep (el_lst (ea_cons ev_c ea_nil) (by simp)) ev_c (by decide) (by decide) (by simp)) (by decide)) J4 (Ex.refl J4) _ fun G5 J5 hG5 i5 l5 => ?_
  have tot : Ex H J5 := (gg.trans i14).trans i5
  have base : Ext Hd H Hd J5 := ⟨Ex.refl _, tot, e.trans tot, fun _ _ h _ => h⟩
  have h4 : H G4 = none := fresh_back (gg.trans i13) hG4
  have h5 : H G5 = none := fresh_back (gg.trans i14) hG5
  have x1 := base.take h4 (fresh_back e h4) (i5 _ _ l4)
  have ne : G5 ≠ G4 := fun z => by subst z; rw [l4] at hG5; cases hG5
  have x2 := x1.take h5 (by rw [upd_ne ne]; exact fresh_back e h5) l5
  refine ⟨rfl, _, [.list [.str "q", .int (-1), .str "z", .str "a", .str "b", .int 4, .bool true, .bool true, .bool true, .bool false, .bool false, .bool false, .bool false, .bool false, .bool false, .bool false, .bool false, .bool true, .bool true, .bool true, .bool true, .bool true, .int 1, .int 1, .int 1, .int 1, .int 1, .int 1, .int 1, .int 1], .list [.str "q", .int (-1), .str "z", .str "a", .str "b", .int 4, .bool true, .bool true, .bool true, .bool false, .bool false, .bool false, .bool false, .bool false, .bool false, .bool false, .bool false, .bool true, .bool true, .bool true, .bool true, .bool true, .int 1, .int 1, .int 1, .int 1, .int 1, .int 1, .int 1, .int 1]], .bool true, x2.i, ?_, ?_, fun v Hd' H' y dv => q v Hd' H' (x2.trans y) dv⟩
  · refine .cons (.lst (by rw [upd_ne ne.symm, upd_same]) ?_) (.cons (.lst upd_same ?_) .nil)
    all_goals repeat (first | exact .nil | refine .cons (.str _) ?_ | refine .cons (.int _) ?_ | refine .cons (.bl _) ?_)
  · exact ⟨_, _, rfl, by decide +kernel, by decide +kernel, by decide +kernel, congrArg PyData.bool (by decide +kernel)⟩
end
end Law

namespace Law
open PySem PySem.Spec PyProof.Rows L2 DL
open Evl (Ex)
open RZ
section
variable {P : Program} {w : World} {K : PySem.W.Frag} {mg : Str → Option Value} {base : Heap} {C_NoName C_NoNumber C_NothingDone C_NoReader C_Twice C_NotJoined C_BadText C_BadLine : Addr}
def preNone (xs : List PyData) : Prop := xs = []
def domTrue (xs : List PyData) (r : PyData) : Prop := r = .bool true
abbrev s_L_right : Stmt := topS 17
theorem sc_L_right : FnScope ["_law_tin", "_law_turn", "_law_got", "_law_much", "_law_tag"] ["_law_tin"] (defScope s_L_right) := ⟨rfl, rfl, rfl, by decide +kernel, rfl, by decide +kernel, by decide +kernel⟩
theorem sb_parB {p : Addr} {Γ : List G} {i j n m : Nat} {ta tb : TE} {R1 R2 : PyData → Prop} {Or : PyData → Prop} (h1 : EB K p ta Γ n R1) (h2 : EB K p tb Γ m R2) : SB K p (tPar i j (tCons ta (tCons tb tNil))) Γ (n + m) (fun Δ => ∃ x y, R1 x ∧ R2 y ∧ Δ = (Γ.set i (.dat x)).set j (.dat y)) Or := fun _ _ c σ Hd H e hc D q1 _ =>
  h1 _ _ c σ Hd H e (by omega) _ fun v x Hd1 H1 hx x1 e1 d1 => h2 _ _ _ σ Hd1 H1 e1 (by omega) _ fun w y Hd2 H2 hy x2 e2 d2 =>
    ⟨_, _, rfl, q1 _ _ Hd2 H2 ⟨x, y, hx, hy, rfl⟩ (by have := (e2.set (i := i) (d1.mono x2.d)).set (i := j) d2; rw [Nat.add_assoc] at this; exact this) (x1.d.trans x2.d)⟩
def gotE (m : Int) (t : Str) : List PyData := [.str t, .int m, .int m, .str t, .str t, .str t]
theorem gotE_ok {t : Str} (m : Int) (ht : PyData.str t ∈ [PyData.str "a", .str "zz"]) : domSame 3 [.list (gotE m t), .list (gotE m t)] (.bool true) := by
  have st : PyData.strOk t = true := by
    rcases List.mem_cons.mp ht with h | h
    · cases h
      decide +kernel
    · rcases List.mem_cons.mp h with h | h
      · cases h
        decide +kernel
      · cases h
  have i1 : fine (.int m) = true ∧ (PyData.int m).depth ≤ 63 := ⟨by simp [fine, SeqAt.shaped, PyData.canLay0, PyData.depth, shortD], by simp [PyData.depth]⟩
  have s1 : fine (.str t) = true ∧ (PyData.str t).depth ≤ 63 := ⟨fine_atom_str st, by simp [PyData.depth]⟩
  have ef : fine (.list (gotE m t)) = true ∧ (PyData.list (gotE m t)).depth < 3 := by
    refine ⟨fine_mk_list (by simp [gotE]) fun x hx => ?_, by simp [gotE, PyData.depth, PyData.depthAll]⟩
    simp only [gotE, List.mem_cons, List.not_mem_nil, or_false] at hx
    rcases hx with h | h | h | h | h | h <;> subst h <;> first | exact i1 | exact s1
  refine ⟨_, _, rfl, ef.2, ef.1, ef.1, congrArg PyData.bool ?_⟩
  simp [gotE, sameD, sameA]
theorem ok_right (X : Tx K mg "_law_right" ["_law_tin"] s_L_right) (T : Bt mg) (KK : KF K C_NoName C_NoNumber C_NothingDone C_NoReader C_Twice C_NotJoined C_BadText C_BadLine) (O_NoName : Oc P w K mg base "NoName" ["self", "name"] (spI1 K "name") C_NoName) (O_NoNumber : Oc P w K mg base "NoNumber" ["self", "number"] (spI1 K "number") C_NoNumber) (O_NothingDone : O0 K mg "NothingDone" C_NothingDone) (O_NoReader : O0 K mg "NoReader" C_NoReader) (O_Twice : Oc P w K mg base "Twice" ["self", "name"] (spI1 K "name") C_Twice) (O_NotJoined : Oc P w K mg base "NotJoined" ["self", "one", "other"] (spI2 K "one" "other") C_NotJoined) (O_BadText : O0 K mg "BadText" C_BadText) (O_BadLine : Oc P w K mg base "BadLine" ["self", "number"] (spI1 K "number") C_BadLine) (K_NotJoined : OcK P w K mg base "NotJoined" (spI2 K "one" "other") C_NotJoined) (D_L_take : Df P w K mg base 1 "_law_take" ["_law_tin", "_law_top_so"] spTake) (D_L_of : Df P w K mg base 2 "_law_of" ["_law_tin", "_law_some"] spOf) (D_L_same : Df P w K mg base 3 "_law_same" ["_law_got", "_law_due"] (spD K 2 (domSame 3))) :
    Df P w K mg base 8 "_law_right" ["_law_tin"] (spB K 0 200000000 preNone domTrue) := by
  refine X.ok sc_L_right (fun vs H Q E h => h.1.trans rfl) (fun f cdv A outer s H vs Q E hr h => ?_)
  obtain ⟨hl, p, c, Hd, xs, o, ws, rfl, e, k0, ho, hb, hc, hd, rfl, q⟩ := h
  refine ⟨_, (pss_cons (ps_for PassesOwn.never rfl (pi_range1 (by rfl) T.range (pa_cons pe_int pa_nil)) (pg_name (i := 1) sc_L_right.nd rfl (Or.inl rfl)) (pss_cons (ps_par (i := 3) (j := 4) (by rfl) sc_L_right.nd rfl rfl (by decide) rfl rfl (pa_cons (pe_op op_sub (pe_def D_L_take hr (by omega) (pa_cons (pv 0) (pa_cons (pe_op op_pow pe_int pe_int) pa_nil))) pe_int) (pa_cons (pe_def D_L_of hr (by omega) (pa_cons (pv 0) (pa_cons (pe_lst (pa_cons pe_str (pa_cons pe_str pa_nil))) pa_nil))) pa_nil)) (by rfl)) (pss_cons (ps_set (i := 2) sc_L_right.nd rfl (Or.inl rfl) (pe_lst (pa_cons (pe_fldO (pe_oc O_NoName hr (by omega) (pa_cons (pv 4) pa_nil))) (pa_cons (pe_fldO (pe_oc O_NoNumber hr (by omega) (pa_cons (pv 3) pa_nil))) (pa_cons (pe_fldO (pe_oc O_BadLine hr (by omega) (pa_cons (pv 3) pa_nil))) (pa_cons (pe_fldO (pe_oc O_Twice hr (by omega) (pa_cons (pv 4) pa_nil))) pa_nil)))))) (pss_cons (ps_set (i := 2) sc_L_right.nd rfl (Or.inl rfl) (pe_op op_cat (pv 2) (pe_lst (pa_cons (pe_fldO (pe_oc O_NotJoined hr (by omega) (pa_cons (pv 4) (pa_cons pe_str pa_nil)))) (pa_cons (pe_fldO (pe_ock K_NotJoined hr (by omega) (pk_cons (pv 4) (pk_cons pe_str pk_nil)))) pa_nil))))) (pss_one (ps_if (pt_not (pt_val (pe_def D_L_same hr (by omega) (pa_cons (pv 2) (pa_cons (pe_lst (pa_cons (pv 4) (pa_cons (pv 3) (pa_cons (pv 3) (pa_cons (pv 4) (pa_cons (pv 4) (pa_cons (pv 4) pa_nil))))))) pa_nil))))) (pss_one (ps_ret pe_bl)) pss_nil)))))) (pss_one (ps_ret pe_bl))), ?_⟩
  refine run_b (dom := domTrue) e k0 ho hb hc hd (by decide) ?_ q
  obtain ⟨_, _, _, _, T_NoName⟩ := O_NoName.own
  obtain ⟨_, _, _, _, T_NoNumber⟩ := O_NoNumber.own
  obtain ⟨_, _, _, _, T_Twice⟩ := O_Twice.own
  obtain ⟨_, _, _, _, T_NotJoined⟩ := O_NotJoined.own
  obtain ⟨_, _, _, _, T_BadLine⟩ := O_BadLine.own
  refine SB.le (n := 0 + 12 * (1 + 1 + (0 + (0 + 0))) + 0) ?_ (by decide)
  refine sb_seq (sb_for (M := 12) (m := 1 + 1 + (0 + (0 + 0))) (fun k Θ => ∃ a b c d, Θ = [.val (.ref p), a, b, c, d]) (EI.bb (ei_rng1 (n := 12) (ea_cons ed_int ea_nil) (by decide))) ⟨_, _, _, _, rfl⟩ ?_) fun Δ hΔ => ?_
  · rintro rs rfl
    refine ⟨by decide, fun k r Θ hk ⟨a, b, c, d, hΘ⟩ => ?_⟩
    subst hΘ
    refine ⟨_, [1], gdb_name (List.mem_singleton.mpr rfl), ?_⟩
    refine sb_seq (sb_parB (R1 := fun r => ∃ m : Int, r = .int m) (eb_op (eb_take (top := 1000000000) rfl (ed_op ed_int ed_int (rd_I ⟨by decide, by decide, by decide⟩ fun _ => .int _)) (by decide) (by decide)) (ED.b ed_int) ?_) (eb_of (ds := [.str "a", .str "zz"]) rfl (EF.dat (ef_lst (ea_cons ed_str (ea_cons ed_str ea_nil)) (by decide))) (by decide) (by decide))) fun Δ hΔ => ?_
    · rintro x y ⟨k, rfl, _, _⟩ rfl
      exact ⟨.int (k - 5), rd_I0 fun _ => .int _, _, rfl⟩
    obtain ⟨x, y, ⟨m, rfl⟩, hy, rfl⟩ := hΔ
    obtain ⟨t, rfl⟩ : ∃ t, y = .str t := by
      rcases List.mem_cons.mp hy with h | h
      · exact ⟨_, h⟩
      · exact ⟨_, List.mem_singleton.mp h⟩
    refine sb_seq (sb_set (ED.b (d := .list [.str t, .int m, .int m, .str t]) (EF.dat (ef_lst (ea_cons (ed_mkfld T_NoName O_NoName.xc KK.t_NoName_name KK.n_NoName_name (ed_var (i := 4) rfl)) (ea_cons (ed_mkfld T_NoNumber O_NoNumber.xc KK.t_NoNumber_number KK.n_NoNumber_number (ed_var (i := 3) rfl)) (ea_cons (ed_mkfld T_BadLine O_BadLine.xc KK.t_BadLine_number KK.n_BadLine_number (ed_var (i := 3) rfl)) (ea_cons (ed_mkfld T_Twice O_Twice.xc KK.t_Twice_name KK.n_Twice_name (ed_var (i := 4) rfl)) ea_nil)))) (by simp))))) fun Δ hΔ => ?_
    obtain ⟨_, rfl, rfl⟩ := hΔ
    refine sb_seq (sb_set (ED.b (d := .list (gotE m t)) (EF.dat (ef_op (ed_var (d := .list [.str t, .int m, .int m, .str t]) rfl) (EF.dat (ef_lst (xs := [.str t, .str t]) (ea_cons (ed_mkfldA T_NotJoined O_NotJoined.xc KK.t_NotJoined_one KK.t_NotJoined_other KK.n_NotJoined_one (by decide) (ed_var (i := 4) rfl) ed_str) (ea_cons (ed_mkfldK T_NotJoined O_NotJoined.xc KK.t_NotJoined_one KK.t_NotJoined_other KK.n_NotJoined_other (ed_var (i := 4) rfl) ed_str) ea_nil)) (by simp))) (rf_cat (by simp)))))) fun Δ hΔ => ?_
    obtain ⟨_, rfl, rfl⟩ := hΔ
    refine (sb_if (b := false) ((et_not (et_val (b := true) (ed_call (ea_cons (ed_var (d := .list (gotE m t)) rfl) (ea_cons (EF.dat (ef_lst (xs := gotE m t) (ea_cons (ed_var rfl) (ea_cons (ed_var rfl) (ea_cons (ed_var rfl) (ea_cons (ed_var rfl) (ea_cons (ed_var rfl) (ea_cons (ed_var rfl) ea_nil)))))) (by simp [gotE]))) ea_nil)) rfl (gotE_ok m hy)))).is rfl) (fun z => nomatch z) fun _ => sb_next).imp (fun Δ hΔ => ?_) fun _ z => z
    exact ⟨_, _, _, _, hΔ⟩
  · obtain ⟨_, _, a, b, c, d, rfl⟩ := hΔ
    exact sb_ret (EB.imp (ED.b ed_bl) fun _ z => z)
abbrev s_law : Stmt := topS 18
theorem sc_law : FnScope ["_law_script", "_law_cells_here", "_law_k"] ["_law_script"] (defScope s_law) := ⟨rfl, rfl, rfl, by decide +kernel, rfl, by decide +kernel, by decide +kernel⟩
def spLaw (K : PySem.W.Frag) : Sp := fun vs H Q _ => ∃ (a : Addr) (ns : List Int), vs = [.ref a] ∧ SqL K H a (ns.map V.int) ∧ ns.length ≤ 63 ∧ ∀ H', Q (.bl true) H'
theorem ed_run {Γ : List G} {ms : List Int} {j : Nat} {N : Nat} (h1 : Γ[1]? = some (.dat (.list (ms.map PyData.int)))) (h2 : Γ[2]? = some (.dat (.int (j : Int)))) (hj : j < ms.length) (hl : ms.length ≤ 1000) (hN : 0 + N < 2 ^ 60) :
    ED K (tCall (spB K 0 N preNone domTrue) [] E0 (tCons (tCall spBox [] E0 (tCons (tVar 1) (tCons (tVar 2) tNil))) tNil)) Γ (.bool true) := fun _ _ σ Hd H e Q q => by
  obtain ⟨v1, s1, d1⟩ := e.dat h1
  obtain ⟨v2, s2, d2⟩ := e.dat h2
  cases d2
  cases d1 with
  | @lst a ws _ g1 g2 =>
    have ew := g2.ofInts
    subst ew
    refine ⟨_, s1, _, s2, a, ms, j, rfl, e.x.i _ _ g1, hj, hl, fun p o hp hb => ?_⟩
    have hid : hid p (upd H p o) = H := by
      funext x
      unfold DL.hid
      by_cases z : x = p
      · rw [if_pos z, z, hp]
      · rw [if_neg z, upd_ne z]
    refine ⟨rfl, p, 0, Hd, [], o, [], rfl, e.x.i.trans (Ex.new hp), Evl.fresh_back e.x.i hp, upd_same, hb, hN, .nil, rfl, fun v r Hd' H' hr x _ _ dv => ?_⟩
    rw [hid] at x
    rw [show r = .bool true from hr] at dv
    exact q v Hd' H' x dv
theorem body_law (T : Bt mg) (D_L_hand_right : Df P w K mg base 4 "_law_hand_right" [] (spD K 0 fun ds r => ds = [] ∧ r = .bool true)) (D_L_cells : Df P w K mg base 1 "_law_cells" ["_law_script", "_law_most"] (spCells K)) (D_L_box : Df P w K mg base 1 "_law_box" ["_law_script", "_law_k"] spBox)
    (D_L_right : Df P w K mg base 8 "_law_right" ["_law_tin"] (spB K 0 200000000 preNone domTrue)) : ∀ (f : Addr) (cdv : Value) (A : Around) (outer : List Env) (s : Shared) (H : Hp) (vs : List V) (Q : VK) (E : XK), Room 8 (A.deeper (envOfC "law" (defScope s_law) s.heap.objs.size f cdv)) → spLaw K vs H Q E →
      ∃ t, PSs (cxOf CX0 P w K mg base ["_law_script", "_law_cells_here", "_law_k"] "law" (defScope s_law) f cdv A outer s H E).nox (defBody s_law) t ∧ t { nx := fun _ H' => Q .non H', rt := Q } (L2.start ["_law_script", "_law_cells_here", "_law_k"] vs) H := by
  intro f cdv A outer s H vs Q E hr h
  obtain ⟨a, ns, rfl, ha, hn, q⟩ := h
  refine ⟨_, (pss_cons (ps_if (pt_not (pt_val (pe_def0 D_L_hand_right hr (by omega)))) (pss_one (ps_ret pe_bl)) pss_nil) (pss_cons (ps_set (i := 1) sc_law.nd rfl (Or.inr rfl) (pe_def D_L_cells hr (by omega) (pa_cons (pv 0) (pa_cons pe_int pa_nil)))) (pss_one (ps_ret (pe_callB (allS K) (by rfl) T.all (by decide +kernel) (pa_cons (pe_lc (own := [("_law_k", 2)]) (g := gName 2) (tt := tYes) rfl sc_law.nd (pi_range1 (by rfl) T.range (pa_cons (pe_callB (lenS K) (by rfl) T.len PySem.boot_len (pa_cons (pv 1) pa_nil)) pa_nil)) (blkOk_by (N := ["_law_script", "_law_cells_here", "_law_k"]) (sc := defScope s_law) (by decide +kernel)) (fun _ _ _ _ _ => (pg_name (i := 2) sc_law.nd rfl (Or.inl rfl) (hf := .inr rfl))) (fun _ _ _ _ _ => pts_nil) (fun _ _ _ _ _ => (pe_def D_L_right hr (by omega) (pa_cons (pe_def D_L_box hr (by omega) (pa_cons (pv 1) (pa_cons (pv 2) pa_nil))) pa_nil)))) pa_nil)))))), ?_⟩
  refine ⟨rfl, fun _ => none, [], _, (fun _ _ z => nomatch z), .nil, ⟨rfl, rfl⟩, fun v Hd1 H1 x1 dv => ?_⟩
  cases dv
  refine ⟨true, rfl, iteF ?_⟩
  have ha1 := Evl.ex_l x1.h ha
  refine ⟨_, rfl, a, ns, 3, rfl, ha1, hn, by decide, by decide, fun p ms H2 hp e2 l1 l3 h2 => ?_⟩
  have e : Ex (upd (fun _ => none) p (.lst (ms.map V.int))) H2 := fun x o hx => by
    by_cases z : x = p
    · subst z; rw [upd_same] at hx; cases hx; exact h2
    · rw [upd_ne z] at hx; cases hx
  have en : En K (upd (fun _ => none) p (.lst (ms.map V.int))) H2 [.any, .dat (.list (ms.map PyData.int)), .any] [some (.ref a), some (.ref p), none] (upd (fun _ => none) p (.lst (ms.map V.int))) H2 := by
    refine ⟨.refl e, rfl, fun i g hg => ?_, fun i j fs es w _ h1 _ _ _ => ?_⟩
    · match i, hg with
      | 0, hg => cases hg; trivial
      | 1, hg => cases hg; exact ⟨_, rfl, .lst upd_same (DtA.ints ms)⟩
      | 2, hg => cases hg; trivial
      | i + 3, hg => cases hg
    · match i, h1 with
      | 0, h => cases h
      | 1, h => cases h
      | 2, h => cases h
      | i + 3, h => cases h
  have hl : ((List.range ((ms.map PyData.int).length : Int).toNat).map fun (k : Nat) => PyData.int (k : Int)).length ≤ 100000 := by
    rw [List.length_map, List.length_range, List.length_map]; omega
  refine ed_all (bs := (List.range ((ms.map PyData.int).length : Int).toNat).map fun _ => true) (EF.rd (EF.is (ef_lc0 (f := fun _ => .bool true) (ei_rng1 (ea_cons (ed_lenR (ed_var (d := .list (ms.map PyData.int)) rfl).rd) ea_nil) (by rw [List.length_map]; omega)) hl fun d hdm => ?_) ?_)) _ _ _ _ _ en _ fun v Hd3 H3 x3 dv => ?_
  · obtain ⟨j, hj, rfl⟩ := List.mem_map.mp hdm
    have hj' := List.mem_range.mp hj
    rw [List.length_map] at hj'
    exact ⟨_, gd_name (List.mem_singleton.mpr rfl), ed_run rfl rfl (by omega) (by omega) (by decide)⟩
  · rw [List.map_map, List.map_map]
    rfl
  · have eb : ((List.range ((ms.map PyData.int).length : Int).toNat).map fun _ => true).all id = true := by simp
    rw [eb] at dv
    cases dv
    exact q H3
end
end Law

namespace Law
open PySem PySem.Spec PyProof.Rows L2 DL
open Evl (Ex)
open RZ
theorem all_mk {l : PySem.W.OpenLaw} {w : World} {K : PySem.W.Frag} {h : Heap} {mg : Str → Option Value} {fa : Addr} (X : K.In h) (G : h.Ns mainGlobals mg) (hfa : mg "law" = some (.ref fa))
    {C_NoName : Addr}
    {f_NoName : Addr} {od_NoName an_NoName : Option Addr} {sl_NoName : Array (Option Value)} {oc_NoName kV_NoName dc_NoName pm_NoName cd_NoName ct_NoName : Value}
    {C_NoNumber : Addr}
    {f_NoNumber : Addr} {od_NoNumber an_NoNumber : Option Addr} {sl_NoNumber : Array (Option Value)} {oc_NoNumber kV_NoNumber dc_NoNumber pm_NoNumber cd_NoNumber ct_NoNumber : Value}
    {C_NothingDone : Addr}
    {C_NoReader : Addr}
    {C_Twice : Addr}
    {f_Twice : Addr} {od_Twice an_Twice : Option Addr} {sl_Twice : Array (Option Value)} {oc_Twice kV_Twice dc_Twice pm_Twice cd_Twice ct_Twice : Value}
    {C_NotJoined : Addr}
    {f_NotJoined : Addr} {od_NotJoined an_NotJoined : Option Addr} {sl_NotJoined : Array (Option Value)} {oc_NotJoined kV_NotJoined dc_NotJoined pm_NotJoined cd_NotJoined ct_NotJoined : Value}
    {C_BadText : Addr}
    {C_BadLine : Addr}
    {f_BadLine : Addr} {od_BadLine an_BadLine : Option Addr} {sl_BadLine : Array (Option Value)} {oc_BadLine kV_BadLine dc_BadLine pm_BadLine cd_BadLine ct_BadLine : Value}
    {f0 : Addr} {od0 an0 : Option Addr} {sl0 : Array (Option Value)} {oc0 kV0 dc0 pm0 cd0 ct0 : Value}
    {f1 : Addr} {od1 an1 : Option Addr} {sl1 : Array (Option Value)} {oc1 kV1 dc1 pm1 cd1 ct1 : Value}
    {f2 : Addr} {od2 an2 : Option Addr} {sl2 : Array (Option Value)} {oc2 kV2 dc2 pm2 cd2 ct2 : Value}
    {f3 : Addr} {od3 an3 : Option Addr} {sl3 : Array (Option Value)} {oc3 kV3 dc3 pm3 cd3 ct3 : Value}
    {f4 : Addr} {od4 an4 : Option Addr} {sl4 : Array (Option Value)} {oc4 kV4 dc4 pm4 cd4 ct4 : Value}
    {f5 : Addr} {od5 an5 : Option Addr} {sl5 : Array (Option Value)} {oc5 kV5 dc5 pm5 cd5 ct5 : Value}
    {f6 : Addr} {od6 an6 : Option Addr} {sl6 : Array (Option Value)} {oc6 kV6 dc6 pm6 cd6 ct6 : Value}
    {f7 : Addr} {od7 an7 : Option Addr} {sl7 : Array (Option Value)} {oc7 kV7 dc7 pm7 cd7 ct7 : Value}
    {f8 : Addr} {od8 an8 : Option Addr} {sl8 : Array (Option Value)} {oc8 kV8 dc8 pm8 cd8 ct8 : Value}
    (aC_NoName : PySem.W.nsIn K mainGlobals "NoName" = some (some (.ref C_NoName)))
    (md_NoName : PySem.W.excInitIn K C_NoName [.type "LookupError", .type "Exception", .type "BaseException", .type "object"] "LookupError.__new__" = true)
    (kC_NoName : PySem.W.keepIn K (.ref C_NoName) = true)
    (hg_NoName : PySem.W.findIn K (.ref C_NoName) "__getattribute__" = some (some (.builtin "BaseException.__getattribute__")))
    (hk_NoName : PySem.W.findIn K (.ref C_NoName) "__getattr__" = some none)
    (hs_NoName : PySem.W.subIn K (.ref C_NoName) (.type "BaseException") = some true)
    (hd_NoName : PySem.W.hasDictIn K C_NoName = true)
    (ha_NoName : PySem.W.findIn K (.ref C_NoName) "__class__" = some (some (.builtin "object.__class__")))
    (hm_NoName : PySem.W.mroIn K C_NoName (.type "object") = some true)
    (ov_NoName : PySem.W.excOver K C_NoName [.type "LookupError", .type "Exception", .type "BaseException", .type "object"] = true)
    (sa_NoName : PySem.W.findIn K (.ref C_NoName) "__setattr__" = some (some (.builtin "object.__setattr__")))
    (ic_NoName : PySem.W.findIn K (.ref C_NoName) "__init__" = some (some (.ref f_NoName)))
    (ti_NoName : PySem.W.typeIn K (.ref f_NoName) = some (.type "function"))
    (lk_NoName : K.lookup f_NoName = some ⟨oc_NoName, od_NoName, .func (PySem.W.fnOf "__init__" "NoName.__init__" (defArgs (initS 1)) (defBody (initS 1)) (defScope (initS 1)) .none kV_NoName dc_NoName pm_NoName an_NoName cd_NoName ct_NoName), sl_NoName⟩)
    (cd_NoName : PySem.W.codeIn K cd_NoName "NoName.__init__" = true)
    (kf_NoName : PySem.W.keepIn K (.ref f_NoName) = true)
    (aC_NoNumber : PySem.W.nsIn K mainGlobals "NoNumber" = some (some (.ref C_NoNumber)))
    (md_NoNumber : PySem.W.excInitIn K C_NoNumber [.type "LookupError", .type "Exception", .type "BaseException", .type "object"] "LookupError.__new__" = true)
    (kC_NoNumber : PySem.W.keepIn K (.ref C_NoNumber) = true)
    (hg_NoNumber : PySem.W.findIn K (.ref C_NoNumber) "__getattribute__" = some (some (.builtin "BaseException.__getattribute__")))
    (hk_NoNumber : PySem.W.findIn K (.ref C_NoNumber) "__getattr__" = some none)
    (hs_NoNumber : PySem.W.subIn K (.ref C_NoNumber) (.type "BaseException") = some true)
    (hd_NoNumber : PySem.W.hasDictIn K C_NoNumber = true)
    (ha_NoNumber : PySem.W.findIn K (.ref C_NoNumber) "__class__" = some (some (.builtin "object.__class__")))
    (hm_NoNumber : PySem.W.mroIn K C_NoNumber (.type "object") = some true)
    (ov_NoNumber : PySem.W.excOver K C_NoNumber [.type "LookupError", .type "Exception", .type "BaseException", .type "object"] = true)
    (sa_NoNumber : PySem.W.findIn K (.ref C_NoNumber) "__setattr__" = some (some (.builtin "object.__setattr__")))
    (ic_NoNumber : PySem.W.findIn K (.ref C_NoNumber) "__init__" = some (some (.ref f_NoNumber)))
    (ti_NoNumber : PySem.W.typeIn K (.ref f_NoNumber) = some (.type "function"))
    (lk_NoNumber : K.lookup f_NoNumber = some ⟨oc_NoNumber, od_NoNumber, .func (PySem.W.fnOf "__init__" "NoNumber.__init__" (defArgs (initS 2)) (defBody (initS 2)) (defScope (initS 2)) .none kV_NoNumber dc_NoNumber pm_NoNumber an_NoNumber cd_NoNumber ct_NoNumber), sl_NoNumber⟩)
    (cd_NoNumber : PySem.W.codeIn K cd_NoNumber "NoNumber.__init__" = true)
    (kf_NoNumber : PySem.W.keepIn K (.ref f_NoNumber) = true)
    (aC_NothingDone : PySem.W.nsIn K mainGlobals "NothingDone" = some (some (.ref C_NothingDone)))
    (md_NothingDone : PySem.W.excInitIn K C_NothingDone [.type "LookupError", .type "Exception", .type "BaseException", .type "object"] "LookupError.__new__" = true)
    (kC_NothingDone : PySem.W.keepIn K (.ref C_NothingDone) = true)
    (hg_NothingDone : PySem.W.findIn K (.ref C_NothingDone) "__getattribute__" = some (some (.builtin "BaseException.__getattribute__")))
    (hk_NothingDone : PySem.W.findIn K (.ref C_NothingDone) "__getattr__" = some none)
    (hs_NothingDone : PySem.W.subIn K (.ref C_NothingDone) (.type "BaseException") = some true)
    (hd_NothingDone : PySem.W.hasDictIn K C_NothingDone = true)
    (ha_NothingDone : PySem.W.findIn K (.ref C_NothingDone) "__class__" = some (some (.builtin "object.__class__")))
    (hm_NothingDone : PySem.W.mroIn K C_NothingDone (.type "object") = some true)
    (ic_NothingDone : PySem.W.findIn K (.ref C_NothingDone) "__init__" = some (some (.builtin "LookupError.__init__")))
    (aC_NoReader : PySem.W.nsIn K mainGlobals "NoReader" = some (some (.ref C_NoReader)))
    (md_NoReader : PySem.W.excInitIn K C_NoReader [.type "ValueError", .type "Exception", .type "BaseException", .type "object"] "ValueError.__new__" = true)
    (kC_NoReader : PySem.W.keepIn K (.ref C_NoReader) = true)
    (hg_NoReader : PySem.W.findIn K (.ref C_NoReader) "__getattribute__" = some (some (.builtin "BaseException.__getattribute__")))
    (hk_NoReader : PySem.W.findIn K (.ref C_NoReader) "__getattr__" = some none)
    (hs_NoReader : PySem.W.subIn K (.ref C_NoReader) (.type "BaseException") = some true)
    (hd_NoReader : PySem.W.hasDictIn K C_NoReader = true)
    (ha_NoReader : PySem.W.findIn K (.ref C_NoReader) "__class__" = some (some (.builtin "object.__class__")))
    (hm_NoReader : PySem.W.mroIn K C_NoReader (.type "object") = some true)
    (ic_NoReader : PySem.W.findIn K (.ref C_NoReader) "__init__" = some (some (.builtin "ValueError.__init__")))
    (aC_Twice : PySem.W.nsIn K mainGlobals "Twice" = some (some (.ref C_Twice)))
    (md_Twice : PySem.W.excInitIn K C_Twice [.type "ValueError", .type "Exception", .type "BaseException", .type "object"] "ValueError.__new__" = true)
    (kC_Twice : PySem.W.keepIn K (.ref C_Twice) = true)
    (hg_Twice : PySem.W.findIn K (.ref C_Twice) "__getattribute__" = some (some (.builtin "BaseException.__getattribute__")))
    (hk_Twice : PySem.W.findIn K (.ref C_Twice) "__getattr__" = some none)
    (hs_Twice : PySem.W.subIn K (.ref C_Twice) (.type "BaseException") = some true)
    (hd_Twice : PySem.W.hasDictIn K C_Twice = true)
    (ha_Twice : PySem.W.findIn K (.ref C_Twice) "__class__" = some (some (.builtin "object.__class__")))
    (hm_Twice : PySem.W.mroIn K C_Twice (.type "object") = some true)
    (ov_Twice : PySem.W.excOver K C_Twice [.type "ValueError", .type "Exception", .type "BaseException", .type "object"] = true)
    (sa_Twice : PySem.W.findIn K (.ref C_Twice) "__setattr__" = some (some (.builtin "object.__setattr__")))
    (ic_Twice : PySem.W.findIn K (.ref C_Twice) "__init__" = some (some (.ref f_Twice)))
    (ti_Twice : PySem.W.typeIn K (.ref f_Twice) = some (.type "function"))
    (lk_Twice : K.lookup f_Twice = some ⟨oc_Twice, od_Twice, .func (PySem.W.fnOf "__init__" "Twice.__init__" (defArgs (initS 5)) (defBody (initS 5)) (defScope (initS 5)) .none kV_Twice dc_Twice pm_Twice an_Twice cd_Twice ct_Twice), sl_Twice⟩)
    (cd_Twice : PySem.W.codeIn K cd_Twice "Twice.__init__" = true)
    (kf_Twice : PySem.W.keepIn K (.ref f_Twice) = true)
    (aC_NotJoined : PySem.W.nsIn K mainGlobals "NotJoined" = some (some (.ref C_NotJoined)))
    (md_NotJoined : PySem.W.excInitIn K C_NotJoined [.type "ValueError", .type "Exception", .type "BaseException", .type "object"] "ValueError.__new__" = true)
    (kC_NotJoined : PySem.W.keepIn K (.ref C_NotJoined) = true)
    (hg_NotJoined : PySem.W.findIn K (.ref C_NotJoined) "__getattribute__" = some (some (.builtin "BaseException.__getattribute__")))
    (hk_NotJoined : PySem.W.findIn K (.ref C_NotJoined) "__getattr__" = some none)
    (hs_NotJoined : PySem.W.subIn K (.ref C_NotJoined) (.type "BaseException") = some true)
    (hd_NotJoined : PySem.W.hasDictIn K C_NotJoined = true)
    (ha_NotJoined : PySem.W.findIn K (.ref C_NotJoined) "__class__" = some (some (.builtin "object.__class__")))
    (hm_NotJoined : PySem.W.mroIn K C_NotJoined (.type "object") = some true)
    (ov_NotJoined : PySem.W.excOver K C_NotJoined [.type "ValueError", .type "Exception", .type "BaseException", .type "object"] = true)
    (sa_NotJoined : PySem.W.findIn K (.ref C_NotJoined) "__setattr__" = some (some (.builtin "object.__setattr__")))
    (ic_NotJoined : PySem.W.findIn K (.ref C_NotJoined) "__init__" = some (some (.ref f_NotJoined)))
    (ti_NotJoined : PySem.W.typeIn K (.ref f_NotJoined) = some (.type "function"))
    (lk_NotJoined : K.lookup f_NotJoined = some ⟨oc_NotJoined, od_NotJoined, .func (PySem.W.fnOf "__init__" "NotJoined.__init__" (defArgs (initS 6)) (defBody (initS 6)) (defScope (initS 6)) .none kV_NotJoined dc_NotJoined pm_NotJoined an_NotJoined cd_NotJoined ct_NotJoined), sl_NotJoined⟩)
    (cd_NotJoined : PySem.W.codeIn K cd_NotJoined "NotJoined.__init__" = true)
    (kf_NotJoined : PySem.W.keepIn K (.ref f_NotJoined) = true)
    (aC_BadText : PySem.W.nsIn K mainGlobals "BadText" = some (some (.ref C_BadText)))
    (md_BadText : PySem.W.excInitIn K C_BadText [.type "ValueError", .type "Exception", .type "BaseException", .type "object"] "ValueError.__new__" = true)
    (kC_BadText : PySem.W.keepIn K (.ref C_BadText) = true)
    (hg_BadText : PySem.W.findIn K (.ref C_BadText) "__getattribute__" = some (some (.builtin "BaseException.__getattribute__")))
    (hk_BadText : PySem.W.findIn K (.ref C_BadText) "__getattr__" = some none)
    (hs_BadText : PySem.W.subIn K (.ref C_BadText) (.type "BaseException") = some true)
    (hd_BadText : PySem.W.hasDictIn K C_BadText = true)
    (ha_BadText : PySem.W.findIn K (.ref C_BadText) "__class__" = some (some (.builtin "object.__class__")))
    (hm_BadText : PySem.W.mroIn K C_BadText (.type "object") = some true)
    (ic_BadText : PySem.W.findIn K (.ref C_BadText) "__init__" = some (some (.builtin "ValueError.__init__")))
    (aC_BadLine : PySem.W.nsIn K mainGlobals "BadLine" = some (some (.ref C_BadLine)))
    (md_BadLine : PySem.W.excInitIn K C_BadLine [.type "ValueError", .type "Exception", .type "BaseException", .type "object"] "ValueError.__new__" = true)
    (kC_BadLine : PySem.W.keepIn K (.ref C_BadLine) = true)
    (hg_BadLine : PySem.W.findIn K (.ref C_BadLine) "__getattribute__" = some (some (.builtin "BaseException.__getattribute__")))
    (hk_BadLine : PySem.W.findIn K (.ref C_BadLine) "__getattr__" = some none)
    (hs_BadLine : PySem.W.subIn K (.ref C_BadLine) (.type "BaseException") = some true)
    (hd_BadLine : PySem.W.hasDictIn K C_BadLine = true)
    (ha_BadLine : PySem.W.findIn K (.ref C_BadLine) "__class__" = some (some (.builtin "object.__class__")))
    (hm_BadLine : PySem.W.mroIn K C_BadLine (.type "object") = some true)
    (ov_BadLine : PySem.W.excOver K C_BadLine [.type "ValueError", .type "Exception", .type "BaseException", .type "object"] = true)
    (sa_BadLine : PySem.W.findIn K (.ref C_BadLine) "__setattr__" = some (some (.builtin "object.__setattr__")))
    (ic_BadLine : PySem.W.findIn K (.ref C_BadLine) "__init__" = some (some (.ref f_BadLine)))
    (ti_BadLine : PySem.W.typeIn K (.ref f_BadLine) = some (.type "function"))
    (lk_BadLine : K.lookup f_BadLine = some ⟨oc_BadLine, od_BadLine, .func (PySem.W.fnOf "__init__" "BadLine.__init__" (defArgs (initS 8)) (defBody (initS 8)) (defScope (initS 8)) .none kV_BadLine dc_BadLine pm_BadLine an_BadLine cd_BadLine ct_BadLine), sl_BadLine⟩)
    (cd_BadLine : PySem.W.codeIn K cd_BadLine "BadLine.__init__" = true)
    (kf_BadLine : PySem.W.keepIn K (.ref f_BadLine) = true)
    (hn : PySem.W.specialIn K (.builtin "object.__class__") "__get__" = some (some (.builtin "getset_descriptor.__get__")))
    (ht : PySem.W.takesIn K (.builtin "object.__class__") = some true)
    (q_l0 : PySem.W.kitOne K (.ref C_NoName) (.type "LookupError") = some true)
    (q_a0 : PySem.W.kitAny K (.ref C_NoName) [.type "KeyError", .type "IndexError"] = some false)
    (q_v0 : PySem.W.kitOne K (.ref C_NoName) (.type "ValueError") = some false)
    (q_k00 : PySem.W.kitOne K (.ref C_NoName) (.ref C_NoName) = some true)
    (q_k01 : PySem.W.kitOne K (.ref C_NoName) (.ref C_NoNumber) = some false)
    (q_k02 : PySem.W.kitOne K (.ref C_NoName) (.ref C_NothingDone) = some false)
    (q_k03 : PySem.W.kitOne K (.ref C_NoName) (.ref C_NoReader) = some false)
    (q_k04 : PySem.W.kitOne K (.ref C_NoName) (.ref C_Twice) = some false)
    (q_k05 : PySem.W.kitOne K (.ref C_NoName) (.ref C_NotJoined) = some false)
    (q_k06 : PySem.W.kitOne K (.ref C_NoName) (.ref C_BadText) = some false)
    (q_k07 : PySem.W.kitOne K (.ref C_NoName) (.ref C_BadLine) = some false)
    (q_l1 : PySem.W.kitOne K (.ref C_NoNumber) (.type "LookupError") = some true)
    (q_a1 : PySem.W.kitAny K (.ref C_NoNumber) [.type "KeyError", .type "IndexError"] = some false)
    (q_v1 : PySem.W.kitOne K (.ref C_NoNumber) (.type "ValueError") = some false)
    (q_k10 : PySem.W.kitOne K (.ref C_NoNumber) (.ref C_NoName) = some false)
    (q_k11 : PySem.W.kitOne K (.ref C_NoNumber) (.ref C_NoNumber) = some true)
    (q_k12 : PySem.W.kitOne K (.ref C_NoNumber) (.ref C_NothingDone) = some false)
    (q_k13 : PySem.W.kitOne K (.ref C_NoNumber) (.ref C_NoReader) = some false)
    (q_k14 : PySem.W.kitOne K (.ref C_NoNumber) (.ref C_Twice) = some false)
    (q_k15 : PySem.W.kitOne K (.ref C_NoNumber) (.ref C_NotJoined) = some false)
    (q_k16 : PySem.W.kitOne K (.ref C_NoNumber) (.ref C_BadText) = some false)
    (q_k17 : PySem.W.kitOne K (.ref C_NoNumber) (.ref C_BadLine) = some false)
    (q_l2 : PySem.W.kitOne K (.ref C_NothingDone) (.type "LookupError") = some true)
    (q_a2 : PySem.W.kitAny K (.ref C_NothingDone) [.type "KeyError", .type "IndexError"] = some false)
    (q_v2 : PySem.W.kitOne K (.ref C_NothingDone) (.type "ValueError") = some false)
    (q_k20 : PySem.W.kitOne K (.ref C_NothingDone) (.ref C_NoName) = some false)
    (q_k21 : PySem.W.kitOne K (.ref C_NothingDone) (.ref C_NoNumber) = some false)
    (q_k22 : PySem.W.kitOne K (.ref C_NothingDone) (.ref C_NothingDone) = some true)
    (q_k23 : PySem.W.kitOne K (.ref C_NothingDone) (.ref C_NoReader) = some false)
    (q_k24 : PySem.W.kitOne K (.ref C_NothingDone) (.ref C_Twice) = some false)
    (q_k25 : PySem.W.kitOne K (.ref C_NothingDone) (.ref C_NotJoined) = some false)
    (q_k26 : PySem.W.kitOne K (.ref C_NothingDone) (.ref C_BadText) = some false)
    (q_k27 : PySem.W.kitOne K (.ref C_NothingDone) (.ref C_BadLine) = some false)
    (q_l3 : PySem.W.kitOne K (.ref C_NoReader) (.type "LookupError") = some false)
    (q_v3 : PySem.W.kitOne K (.ref C_NoReader) (.type "ValueError") = some true)
    (q_k30 : PySem.W.kitOne K (.ref C_NoReader) (.ref C_NoName) = some false)
    (q_k31 : PySem.W.kitOne K (.ref C_NoReader) (.ref C_NoNumber) = some false)
    (q_k32 : PySem.W.kitOne K (.ref C_NoReader) (.ref C_NothingDone) = some false)
    (q_k33 : PySem.W.kitOne K (.ref C_NoReader) (.ref C_NoReader) = some true)
    (q_k34 : PySem.W.kitOne K (.ref C_NoReader) (.ref C_Twice) = some false)
    (q_k35 : PySem.W.kitOne K (.ref C_NoReader) (.ref C_NotJoined) = some false)
    (q_k36 : PySem.W.kitOne K (.ref C_NoReader) (.ref C_BadText) = some false)
    (q_k37 : PySem.W.kitOne K (.ref C_NoReader) (.ref C_BadLine) = some false)
    (q_l4 : PySem.W.kitOne K (.ref C_Twice) (.type "LookupError") = some false)
    (q_v4 : PySem.W.kitOne K (.ref C_Twice) (.type "ValueError") = some true)
    (q_k40 : PySem.W.kitOne K (.ref C_Twice) (.ref C_NoName) = some false)
    (q_k41 : PySem.W.kitOne K (.ref C_Twice) (.ref C_NoNumber) = some false)
    (q_k42 : PySem.W.kitOne K (.ref C_Twice) (.ref C_NothingDone) = some false)
    (q_k43 : PySem.W.kitOne K (.ref C_Twice) (.ref C_NoReader) = some false)
    (q_k44 : PySem.W.kitOne K (.ref C_Twice) (.ref C_Twice) = some true)
    (q_k45 : PySem.W.kitOne K (.ref C_Twice) (.ref C_NotJoined) = some false)
    (q_k46 : PySem.W.kitOne K (.ref C_Twice) (.ref C_BadText) = some false)
    (q_k47 : PySem.W.kitOne K (.ref C_Twice) (.ref C_BadLine) = some false)
    (q_l5 : PySem.W.kitOne K (.ref C_NotJoined) (.type "LookupError") = some false)
    (q_v5 : PySem.W.kitOne K (.ref C_NotJoined) (.type "ValueError") = some true)
    (q_k50 : PySem.W.kitOne K (.ref C_NotJoined) (.ref C_NoName) = some false)
    (q_k51 : PySem.W.kitOne K (.ref C_NotJoined) (.ref C_NoNumber) = some false)
    (q_k52 : PySem.W.kitOne K (.ref C_NotJoined) (.ref C_NothingDone) = some false)
    (q_k53 : PySem.W.kitOne K (.ref C_NotJoined) (.ref C_NoReader) = some false)
    (q_k54 : PySem.W.kitOne K (.ref C_NotJoined) (.ref C_Twice) = some false)
    (q_k55 : PySem.W.kitOne K (.ref C_NotJoined) (.ref C_NotJoined) = some true)
    (q_k56 : PySem.W.kitOne K (.ref C_NotJoined) (.ref C_BadText) = some false)
    (q_k57 : PySem.W.kitOne K (.ref C_NotJoined) (.ref C_BadLine) = some false)
    (q_l6 : PySem.W.kitOne K (.ref C_BadText) (.type "LookupError") = some false)
    (q_v6 : PySem.W.kitOne K (.ref C_BadText) (.type "ValueError") = some true)
    (q_k60 : PySem.W.kitOne K (.ref C_BadText) (.ref C_NoName) = some false)
    (q_k61 : PySem.W.kitOne K (.ref C_BadText) (.ref C_NoNumber) = some false)
    (q_k62 : PySem.W.kitOne K (.ref C_BadText) (.ref C_NothingDone) = some false)
    (q_k63 : PySem.W.kitOne K (.ref C_BadText) (.ref C_NoReader) = some false)
    (q_k64 : PySem.W.kitOne K (.ref C_BadText) (.ref C_Twice) = some false)
    (q_k65 : PySem.W.kitOne K (.ref C_BadText) (.ref C_NotJoined) = some false)
    (q_k66 : PySem.W.kitOne K (.ref C_BadText) (.ref C_BadText) = some true)
    (q_k67 : PySem.W.kitOne K (.ref C_BadText) (.ref C_BadLine) = some false)
    (q_l7 : PySem.W.kitOne K (.ref C_BadLine) (.type "LookupError") = some false)
    (q_v7 : PySem.W.kitOne K (.ref C_BadLine) (.type "ValueError") = some true)
    (q_k70 : PySem.W.kitOne K (.ref C_BadLine) (.ref C_NoName) = some false)
    (q_k71 : PySem.W.kitOne K (.ref C_BadLine) (.ref C_NoNumber) = some false)
    (q_k72 : PySem.W.kitOne K (.ref C_BadLine) (.ref C_NothingDone) = some false)
    (q_k73 : PySem.W.kitOne K (.ref C_BadLine) (.ref C_NoReader) = some false)
    (q_k74 : PySem.W.kitOne K (.ref C_BadLine) (.ref C_Twice) = some false)
    (q_k75 : PySem.W.kitOne K (.ref C_BadLine) (.ref C_NotJoined) = some false)
    (q_k76 : PySem.W.kitOne K (.ref C_BadLine) (.ref C_BadText) = some false)
    (q_k77 : PySem.W.kitOne K (.ref C_BadLine) (.ref C_BadLine) = some true)
    (q_t_NoName_name : PySem.W.takerIn K C_NoName "name" = some none)
    (q_n_NoName_name : PySem.W.findIn K (.ref C_NoName) "name" = some none)
    (q_t_NoNumber_number : PySem.W.takerIn K C_NoNumber "number" = some none)
    (q_n_NoNumber_number : PySem.W.findIn K (.ref C_NoNumber) "number" = some none)
    (q_t_Twice_name : PySem.W.takerIn K C_Twice "name" = some none)
    (q_n_Twice_name : PySem.W.findIn K (.ref C_Twice) "name" = some none)
    (q_t_BadLine_number : PySem.W.takerIn K C_BadLine "number" = some none)
    (q_n_BadLine_number : PySem.W.findIn K (.ref C_BadLine) "number" = some none)
    (q_t_NotJoined_one : PySem.W.takerIn K C_NotJoined "one" = some none)
    (q_n_NotJoined_one : PySem.W.findIn K (.ref C_NotJoined) "one" = some none)
    (q_t_NotJoined_other : PySem.W.takerIn K C_NotJoined "other" = some none)
    (q_n_NotJoined_other : PySem.W.findIn K (.ref C_NotJoined) "other" = some none)
    (a0 : PySem.W.nsIn K mainGlobals "_law_take" = some (some (.ref f0)))
    (l0 : K.lookup f0 = some ⟨oc0, od0, .func (PySem.W.fnOf "_law_take" "_law_take" (defArgs s_L_take) (defBody s_L_take) (defScope s_L_take) .none kV0 dc0 pm0 an0 cd0 ct0), sl0⟩)
    (c0 : PySem.W.codeIn K cd0 "_law_take" = true)
    (k0 : PySem.W.keepIn K (.ref f0) = true)
    (a1 : PySem.W.nsIn K mainGlobals "_law_of" = some (some (.ref f1)))
    (l1 : K.lookup f1 = some ⟨oc1, od1, .func (PySem.W.fnOf "_law_of" "_law_of" (defArgs s_L_of) (defBody s_L_of) (defScope s_L_of) .none kV1 dc1 pm1 an1 cd1 ct1), sl1⟩)
    (c1 : PySem.W.codeIn K cd1 "_law_of" = true)
    (k1 : PySem.W.keepIn K (.ref f1) = true)
    (a2 : PySem.W.nsIn K mainGlobals "_law_box" = some (some (.ref f2)))
    (l2 : K.lookup f2 = some ⟨oc2, od2, .func (PySem.W.fnOf "_law_box" "_law_box" (defArgs s_L_box) (defBody s_L_box) (defScope s_L_box) .none kV2 dc2 pm2 an2 cd2 ct2), sl2⟩)
    (c2 : PySem.W.codeIn K cd2 "_law_box" = true)
    (k2 : PySem.W.keepIn K (.ref f2) = true)
    (a3 : PySem.W.nsIn K mainGlobals "_law_cells" = some (some (.ref f3)))
    (l3 : K.lookup f3 = some ⟨oc3, od3, .func (PySem.W.fnOf "_law_cells" "_law_cells" (defArgs s_L_cells) (defBody s_L_cells) (defScope s_L_cells) .none kV3 dc3 pm3 an3 cd3 ct3), sl3⟩)
    (c3 : PySem.W.codeIn K cd3 "_law_cells" = true)
    (k3 : PySem.W.keepIn K (.ref f3) = true)
    (a4 : PySem.W.nsIn K mainGlobals "_law_same" = some (some (.ref f4)))
    (l4 : K.lookup f4 = some ⟨oc4, od4, .func (PySem.W.fnOf "_law_same" "_law_same" (defArgs s_L_same) (defBody s_L_same) (defScope s_L_same) .none kV4 dc4 pm4 an4 cd4 ct4), sl4⟩)
    (c4 : PySem.W.codeIn K cd4 "_law_same" = true)
    (k4 : PySem.W.keepIn K (.ref f4) = true)
    (a5 : PySem.W.nsIn K mainGlobals "_law_sorts" = some (some (.ref f5)))
    (l5 : K.lookup f5 = some ⟨oc5, od5, .func (PySem.W.fnOf "_law_sorts" "_law_sorts" (defArgs s_L_sorts) (defBody s_L_sorts) (defScope s_L_sorts) .none kV5 dc5 pm5 an5 cd5 ct5), sl5⟩)
    (c5 : PySem.W.codeIn K cd5 "_law_sorts" = true)
    (k5 : PySem.W.keepIn K (.ref f5) = true)
    (a6 : PySem.W.nsIn K mainGlobals "_law_hand_right" = some (some (.ref f6)))
    (l6 : K.lookup f6 = some ⟨oc6, od6, .func (PySem.W.fnOf "_law_hand_right" "_law_hand_right" (defArgs s_L_hand_right) (defBody s_L_hand_right) (defScope s_L_hand_right) .none kV6 dc6 pm6 an6 cd6 ct6), sl6⟩)
    (c6 : PySem.W.codeIn K cd6 "_law_hand_right" = true)
    (k6 : PySem.W.keepIn K (.ref f6) = true)
    (a7 : PySem.W.nsIn K mainGlobals "_law_right" = some (some (.ref f7)))
    (l7 : K.lookup f7 = some ⟨oc7, od7, .func (PySem.W.fnOf "_law_right" "_law_right" (defArgs s_L_right) (defBody s_L_right) (defScope s_L_right) .none kV7 dc7 pm7 an7 cd7 ct7), sl7⟩)
    (c7 : PySem.W.codeIn K cd7 "_law_right" = true)
    (k7 : PySem.W.keepIn K (.ref f7) = true)
    (a8 : PySem.W.nsIn K mainGlobals "law" = some (some (.ref f8)))
    (l8 : K.lookup f8 = some ⟨oc8, od8, .func (PySem.W.fnOf "law" "law" (defArgs s_law) (defBody s_law) (defScope s_law) .none kV8 dc8 pm8 an8 cd8 ct8), sl8⟩)
    (c8 : PySem.W.codeIn K cd8 "law" = true)
    (k8 : PySem.W.keepIn K (.ref f8) = true)
    (z_len : PySem.W.nsIn K mainGlobals "len" = some none)
    (z_abs : PySem.W.nsIn K mainGlobals "abs" = some none)
    (z_int : PySem.W.nsIn K mainGlobals "int" = some none)
    (z_list : PySem.W.nsIn K mainGlobals "list" = some none)
    (z_tuple : PySem.W.nsIn K mainGlobals "tuple" = some none)
    (z_dict : PySem.W.nsIn K mainGlobals "dict" = some none)
    (z_bool : PySem.W.nsIn K mainGlobals "bool" = some none)
    (z_str : PySem.W.nsIn K mainGlobals "str" = some none)
    (z_range : PySem.W.nsIn K mainGlobals "range" = some none)
    (z_zip : PySem.W.nsIn K mainGlobals "zip" = some none)
    (z_enumerate : PySem.W.nsIn K mainGlobals "enumerate" = some none)
    (z_all : PySem.W.nsIn K mainGlobals "all" = some none)
    (z_isinstance : PySem.W.nsIn K mainGlobals "isinstance" = some none)
    (z_sorted : PySem.W.nsIn K mainGlobals "sorted" = some none)
    (z_min : PySem.W.nsIn K mainGlobals "min" = some none)
    (z_LookupError : PySem.W.nsIn K mainGlobals "LookupError" = some none)
    (z_KeyError : PySem.W.nsIn K mainGlobals "KeyError" = some none)
    (z_IndexError : PySem.W.nsIn K mainGlobals "IndexError" = some none)
    (z_ValueError : PySem.W.nsIn K mainGlobals "ValueError" = some none)
    : ∃ fd : FuncData, (∀ (s : Shared) (v : Value), BindsTo s fd ⟨[v], []⟩ [("_law_script", v)]) ∧ ∀ base : Heap, K.In base → base.Ns mainGlobals mg → FnOk l.prog w K mg base CX0 9 fa fd ["_law_script"] (spLaw K) := by
  have e := hfa.symm.trans (PySem.W.mg_of X G a8)
  cases e
  have FL := fun_mk (st := s_law) l8 c8 k8
  have T : Bt mg := ⟨PySem.W.mg_none_of X G z_len, PySem.W.mg_none_of X G z_abs, PySem.W.mg_none_of X G z_int, PySem.W.mg_none_of X G z_list, PySem.W.mg_none_of X G z_tuple, PySem.W.mg_none_of X G z_dict, PySem.W.mg_none_of X G z_bool, PySem.W.mg_none_of X G z_str, PySem.W.mg_none_of X G z_range, PySem.W.mg_none_of X G z_zip, PySem.W.mg_none_of X G z_enumerate, PySem.W.mg_none_of X G z_all, PySem.W.mg_none_of X G z_isinstance, PySem.W.mg_none_of X G z_sorted, PySem.W.mg_none_of X G z_min, PySem.W.mg_none_of X G z_LookupError, PySem.W.mg_none_of X G z_KeyError, PySem.W.mg_none_of X G z_IndexError, PySem.W.mg_none_of X G z_ValueError⟩
  have X0 : Tx K mg "_law_take" ["_law_tin", "_law_top_so"] s_L_take := tx_mk X G a0 l0 c0 k0 fun _ _ _ _ _ _ us hl => match us, hl with | [_, _], _ => rfl
  have X1 : Tx K mg "_law_of" ["_law_tin", "_law_some"] s_L_of := tx_mk X G a1 l1 c1 k1 fun _ _ _ _ _ _ us hl => match us, hl with | [_, _], _ => rfl
  have X2 : Tx K mg "_law_box" ["_law_script", "_law_k"] s_L_box := tx_mk X G a2 l2 c2 k2 fun _ _ _ _ _ _ us hl => match us, hl with | [_, _], _ => rfl
  have X3 : Tx K mg "_law_cells" ["_law_script", "_law_most"] s_L_cells := tx_mk X G a3 l3 c3 k3 fun _ _ _ _ _ _ us hl => match us, hl with | [_, _], _ => rfl
  have X4 : Tx K mg "_law_same" ["_law_got", "_law_due"] s_L_same := tx_mk X G a4 l4 c4 k4 fun _ _ _ _ _ _ us hl => match us, hl with | [_, _], _ => rfl
  have X5 : Tx K mg "_law_sorts" ["_law_error"] s_L_sorts := tx_mk X G a5 l5 c5 k5 fun _ _ _ _ _ _ us hl => match us, hl with | [_], _ => rfl
  have X6 : Tx K mg "_law_hand_right" [] s_L_hand_right := tx_mk X G a6 l6 c6 k6 fun _ _ _ _ _ _ us hl => match us, hl with | [], _ => rfl
  have X7 : Tx K mg "_law_right" ["_law_tin"] s_L_right := tx_mk X G a7 l7 c7 k7 fun _ _ _ _ _ _ us hl => match us, hl with | [_], _ => rfl
  have KK : KF K C_NoName C_NoNumber C_NothingDone C_NoReader C_Twice C_NotJoined C_BadText C_BadLine := ⟨q_l0, q_a0, q_v0, q_k00, q_k01, q_k02, q_k03, q_k04, q_k05, q_k06, q_k07, q_l1, q_a1, q_v1, q_k10, q_k11, q_k12, q_k13, q_k14, q_k15, q_k16, q_k17, q_l2, q_a2, q_v2, q_k20, q_k21, q_k22, q_k23, q_k24, q_k25, q_k26, q_k27, q_l3, q_v3, q_k30, q_k31, q_k32, q_k33, q_k34, q_k35, q_k36, q_k37, q_l4, q_v4, q_k40, q_k41, q_k42, q_k43, q_k44, q_k45, q_k46, q_k47, q_l5, q_v5, q_k50, q_k51, q_k52, q_k53, q_k54, q_k55, q_k56, q_k57, q_l6, q_v6, q_k60, q_k61, q_k62, q_k63, q_k64, q_k65, q_k66, q_k67, q_l7, q_v7, q_k70, q_k71, q_k72, q_k73, q_k74, q_k75, q_k76, q_k77, q_t_NoName_name, q_n_NoName_name, q_t_NoNumber_number, q_n_NoNumber_number, q_t_Twice_name, q_n_Twice_name, q_t_BadLine_number, q_n_BadLine_number, q_t_NotJoined_one, q_n_NotJoined_one, q_t_NotJoined_other, q_n_NotJoined_other⟩
  have XC_NoName : ExcC K C_NoName := ⟨hg_NoName, hk_NoName, hs_NoName, hd_NoName, ha_NoName, hn, ht, hm_NoName⟩
  have W_NoName : ∃ (B newId initId : String) (bmB : List Value), OwnE K C_NoName B newId initId bmB := ⟨_, _, _, _, ⟨PySem.F.excBase_LookupError, PySem.F.store_LookupError, md_NoName, ov_NoName, sa_NoName, hd_NoName, kC_NoName⟩⟩
  have F_NoName := fun_mk (st := initS 1) lk_NoName cd_NoName kf_NoName
  have XC_NoNumber : ExcC K C_NoNumber := ⟨hg_NoNumber, hk_NoNumber, hs_NoNumber, hd_NoNumber, ha_NoNumber, hn, ht, hm_NoNumber⟩
  have W_NoNumber : ∃ (B newId initId : String) (bmB : List Value), OwnE K C_NoNumber B newId initId bmB := ⟨_, _, _, _, ⟨PySem.F.excBase_LookupError, PySem.F.store_LookupError, md_NoNumber, ov_NoNumber, sa_NoNumber, hd_NoNumber, kC_NoNumber⟩⟩
  have F_NoNumber := fun_mk (st := initS 2) lk_NoNumber cd_NoNumber kf_NoNumber
  have XC_NothingDone : ExcC K C_NothingDone := ⟨hg_NothingDone, hk_NothingDone, hs_NothingDone, hd_NothingDone, ha_NothingDone, hn, ht, hm_NothingDone⟩
  have XC_NoReader : ExcC K C_NoReader := ⟨hg_NoReader, hk_NoReader, hs_NoReader, hd_NoReader, ha_NoReader, hn, ht, hm_NoReader⟩
  have XC_Twice : ExcC K C_Twice := ⟨hg_Twice, hk_Twice, hs_Twice, hd_Twice, ha_Twice, hn, ht, hm_Twice⟩
  have W_Twice : ∃ (B newId initId : String) (bmB : List Value), OwnE K C_Twice B newId initId bmB := ⟨_, _, _, _, ⟨PySem.F.excBase_ValueError, PySem.F.store_ValueError, md_Twice, ov_Twice, sa_Twice, hd_Twice, kC_Twice⟩⟩
  have F_Twice := fun_mk (st := initS 5) lk_Twice cd_Twice kf_Twice
  have XC_NotJoined : ExcC K C_NotJoined := ⟨hg_NotJoined, hk_NotJoined, hs_NotJoined, hd_NotJoined, ha_NotJoined, hn, ht, hm_NotJoined⟩
  have W_NotJoined : ∃ (B newId initId : String) (bmB : List Value), OwnE K C_NotJoined B newId initId bmB := ⟨_, _, _, _, ⟨PySem.F.excBase_ValueError, PySem.F.store_ValueError, md_NotJoined, ov_NotJoined, sa_NotJoined, hd_NotJoined, kC_NotJoined⟩⟩
  have F_NotJoined := fun_mk (st := initS 6) lk_NotJoined cd_NotJoined kf_NotJoined
  have XC_BadText : ExcC K C_BadText := ⟨hg_BadText, hk_BadText, hs_BadText, hd_BadText, ha_BadText, hn, ht, hm_BadText⟩
  have XC_BadLine : ExcC K C_BadLine := ⟨hg_BadLine, hk_BadLine, hs_BadLine, hd_BadLine, ha_BadLine, hn, ht, hm_BadLine⟩
  have W_BadLine : ∃ (B newId initId : String) (bmB : List Value), OwnE K C_BadLine B newId initId bmB := ⟨_, _, _, _, ⟨PySem.F.excBase_ValueError, PySem.F.store_ValueError, md_BadLine, ov_BadLine, sa_BadLine, hd_BadLine, kC_BadLine⟩⟩
  have F_BadLine := fun_mk (st := initS 8) lk_BadLine cd_BadLine kf_BadLine
  refine ⟨_, fun s v => .of_eq rfl, fun base _ _ => FL.ok sc_law (fun vs H Q E h => ?_) ?_⟩
  · obtain ⟨a, ns, rfl, _⟩ := h
    rfl
  have O_NoName : Oc l.prog w K mg base "NoName" ["self", "name"] (spI1 K "name") C_NoName := ⟨PySem.W.mg_of X G aC_NoName, W_NoName, XC_NoName, _, _, ic_NoName, ti_NoName, ok_i1 F_NoName, F_NoName.binds fun _ _ _ _ _ _ us hl => match us, hl with | [_, _], _ => rfl⟩
  have O_NoNumber : Oc l.prog w K mg base "NoNumber" ["self", "number"] (spI1 K "number") C_NoNumber := ⟨PySem.W.mg_of X G aC_NoNumber, W_NoNumber, XC_NoNumber, _, _, ic_NoNumber, ti_NoNumber, ok_i2 F_NoNumber, F_NoNumber.binds fun _ _ _ _ _ _ us hl => match us, hl with | [_, _], _ => rfl⟩
  have O_NothingDone : O0 K mg "NothingDone" C_NothingDone := ⟨PySem.W.mg_of X G aC_NothingDone, ⟨_, _, _, _, PySem.F.excBase_LookupError, md_NothingDone, kC_NothingDone, ic_NothingDone⟩, XC_NothingDone⟩
  have O_NoReader : O0 K mg "NoReader" C_NoReader := ⟨PySem.W.mg_of X G aC_NoReader, ⟨_, _, _, _, PySem.F.excBase_ValueError, md_NoReader, kC_NoReader, ic_NoReader⟩, XC_NoReader⟩
  have O_Twice : Oc l.prog w K mg base "Twice" ["self", "name"] (spI1 K "name") C_Twice := ⟨PySem.W.mg_of X G aC_Twice, W_Twice, XC_Twice, _, _, ic_Twice, ti_Twice, ok_i5 F_Twice, F_Twice.binds fun _ _ _ _ _ _ us hl => match us, hl with | [_, _], _ => rfl⟩
  have O_NotJoined : Oc l.prog w K mg base "NotJoined" ["self", "one", "other"] (spI2 K "one" "other") C_NotJoined := ⟨PySem.W.mg_of X G aC_NotJoined, W_NotJoined, XC_NotJoined, _, _, ic_NotJoined, ti_NotJoined, ok_i6 F_NotJoined, F_NotJoined.binds fun _ _ _ _ _ _ us hl => match us, hl with | [_, _, _], _ => rfl⟩
  have K_NotJoined : OcK l.prog w K mg base "NotJoined" (spI2 K "one" "other") C_NotJoined := ⟨PySem.W.mg_of X G aC_NotJoined, W_NotJoined, _, _, ic_NotJoined, ti_NotJoined, ok_i6 F_NotJoined, fun _ _ _ _ => .of_eq rfl⟩
  have O_BadText : O0 K mg "BadText" C_BadText := ⟨PySem.W.mg_of X G aC_BadText, ⟨_, _, _, _, PySem.F.excBase_ValueError, md_BadText, kC_BadText, ic_BadText⟩, XC_BadText⟩
  have O_BadLine : Oc l.prog w K mg base "BadLine" ["self", "number"] (spI1 K "number") C_BadLine := ⟨PySem.W.mg_of X G aC_BadLine, W_BadLine, XC_BadLine, _, _, ic_BadLine, ti_BadLine, ok_i8 F_BadLine, F_BadLine.binds fun _ _ _ _ _ _ us hl => match us, hl with | [_, _], _ => rfl⟩
  have D_take := ok_take (P := l.prog) (w := w) (base := base) X0 T
  have D_of := ok_of (P := l.prog) (w := w) (base := base) X1 T D_take
  have D_box := ok_box (P := l.prog) (w := w) (base := base) X2 T
  have D_cells := ok_cells (P := l.prog) (w := w) (base := base) X3 T
  have D_same := ok_same (P := l.prog) (w := w) (base := base) X4 T 3
  have D_sorts := ok_sorts (P := l.prog) (w := w) (base := base) X5 T O_NoName O_NoNumber O_NothingDone O_NoReader O_Twice O_NotJoined O_BadText O_BadLine
  have D_hand := ok_hand (P := l.prog) (w := w) (base := base) X6 T KK O_NoName O_NoNumber O_NothingDone O_NoReader O_Twice O_NotJoined O_BadText O_BadLine D_same D_sorts
  have D_right := ok_right (P := l.prog) (w := w) (base := base) X7 T KK O_NoName O_NoNumber O_NothingDone O_NoReader O_Twice O_NotJoined O_BadText O_BadLine K_NotJoined D_take D_of D_same
  exact body_law T D_hand D_cells D_box D_right _
end Law
open PySem PySem.W PyProof.Rows
set_option maxHeartbeats 0 in
theorem PySem.Challenge.cw_oldornew_k06_errors_by_themselves_holds : PySem.Challenge.rw_oldornew_k06_errors_by_themselves.Holds := by
  w_on; o_law; k_head; (case hw => w_witness2)
  k_fill
  refine L2.walk_of (l := PySem.Challenge.rw_oldornew_k06_errors_by_themselves) (n := 63) (k := 9) (x := "_law_script") (CX := fun _ => L2.CX0) (sp := fun w => Law.spLaw _) rfl (by decide) rfl ⟨rfl, by decide, by decide⟩ (fun w h Y => PySem.W.kIn_of Y) ?F (fun _ _ a ns hl _ hS => ⟨a, ns, rfl, hS, hl, fun _ => rfl⟩) (fun _ _ _ _ _ h => h)
  case F =>
    intro w mg fa h KX G hmg
    refine' Law.all_mk KX G hmg ?aC_NoName ?md_NoName ?kC_NoName ?hg_NoName ?hk_NoName ?hs_NoName ?hd_NoName ?ha_NoName ?hm_NoName ?ov_NoName ?sa_NoName ?ic_NoName ?ti_NoName ?lk_NoName ?cd_NoName ?kf_NoName ?aC_NoNumber ?md_NoNumber ?kC_NoNumber ?hg_NoNumber ?hk_NoNumber ?hs_NoNumber ?hd_NoNumber ?ha_NoNumber ?hm_NoNumber ?ov_NoNumber ?sa_NoNumber ?ic_NoNumber ?ti_NoNumber ?lk_NoNumber ?cd_NoNumber ?kf_NoNumber ?aC_NothingDone ?md_NothingDone ?kC_NothingDone ?hg_NothingDone ?hk_NothingDone ?hs_NothingDone ?hd_NothingDone ?ha_NothingDone ?hm_NothingDone ?ic_NothingDone ?aC_NoReader ?md_NoReader ?kC_NoReader ?hg_NoReader ?hk_NoReader ?hs_NoReader ?hd_NoReader ?ha_NoReader ?hm_NoReader ?ic_NoReader ?aC_Twice ?md_Twice ?kC_Twice ?hg_Twice ?hk_Twice ?hs_Twice ?hd_Twice ?ha_Twice ?hm_Twice ?ov_Twice ?sa_Twice ?ic_Twice ?ti_Twice ?lk_Twice ?cd_Twice ?kf_Twice ?aC_NotJoined ?md_NotJoined ?kC_NotJoined ?hg_NotJoined ?hk_NotJoined ?hs_NotJoined ?hd_NotJoined ?ha_NotJoined ?hm_NotJoined ?ov_NotJoined ?sa_NotJoined ?ic_NotJoined ?ti_NotJoined ?lk_NotJoined ?cd_NotJoined ?kf_NotJoined ?aC_BadText ?md_BadText ?kC_BadText ?hg_BadText ?hk_BadText ?hs_BadText ?hd_BadText ?ha_BadText ?hm_BadText ?ic_BadText ?aC_BadLine ?md_BadLine ?kC_BadLine ?hg_BadLine ?hk_BadLine ?hs_BadLine ?hd_BadLine ?ha_BadLine ?hm_BadLine ?ov_BadLine ?sa_BadLine ?ic_BadLine ?ti_BadLine ?lk_BadLine ?cd_BadLine ?kf_BadLine ?hn ?ht ?q_l0 ?q_a0 ?q_v0 ?q_k00 ?q_k01 ?q_k02 ?q_k03 ?q_k04 ?q_k05 ?q_k06 ?q_k07 ?q_l1 ?q_a1 ?q_v1 ?q_k10 ?q_k11 ?q_k12 ?q_k13 ?q_k14 ?q_k15 ?q_k16 ?q_k17 ?q_l2 ?q_a2 ?q_v2 ?q_k20 ?q_k21 ?q_k22 ?q_k23 ?q_k24 ?q_k25 ?q_k26 ?q_k27 ?q_l3 ?q_v3 ?q_k30 ?q_k31 ?q_k32 ?q_k33 ?q_k34 ?q_k35 ?q_k36 ?q_k37 ?q_l4 ?q_v4 ?q_k40 ?q_k41 ?q_k42 ?q_k43 ?q_k44 ?q_k45 ?q_k46 ?q_k47 ?q_l5 ?q_v5 ?q_k50 ?q_k51 ?q_k52 ?q_k53 ?q_k54 ?q_k55 ?q_k56 ?q_k57 ?q_l6 ?q_v6 ?q_k60 ?q_k61 ?q_k62 ?q_k63 ?q_k64 ?q_k65 ?q_k66 ?q_k67 ?q_l7 ?q_v7 ?q_k70 ?q_k71 ?q_k72 ?q_k73 ?q_k74 ?q_k75 ?q_k76 ?q_k77 ?q_t_NoName_name ?q_n_NoName_name ?q_t_NoNumber_number ?q_n_NoNumber_number ?q_t_Twice_name ?q_n_Twice_name ?q_t_BadLine_number ?q_n_BadLine_number ?q_t_NotJoined_one ?q_n_NotJoined_one ?q_t_NotJoined_other ?q_n_NotJoined_other ?a0 ?l0 ?c0 ?k0 ?a1 ?l1 ?c1 ?k1 ?a2 ?l2 ?c2 ?k2 ?a3 ?l3 ?c3 ?k3 ?a4 ?l4 ?c4 ?k4 ?a5 ?l5 ?c5 ?k5 ?a6 ?l6 ?c6 ?k6 ?a7 ?l7 ?c7 ?k7 ?a8 ?l8 ?c8 ?k8 ?z_len ?z_abs ?z_int ?z_list ?z_tuple ?z_dict ?z_bool ?z_str ?z_range ?z_zip ?z_enumerate ?z_all ?z_isinstance ?z_sorted ?z_min ?z_LookupError ?z_KeyError ?z_IndexError ?z_ValueError
    (case aC_NoName => k_is); (case md_NoName => kx_is); (case kC_NoName => k_is); (case hg_NoName => k_is); (case hk_NoName => k_is); (case hs_NoName => k_is); (case hd_NoName => k_is); (case ha_NoName => k_is); (case hm_NoName => k_is); (case ov_NoName => kx_is); (case sa_NoName => k_is); (case ic_NoName => k_is); (case ti_NoName => k_is); (case lk_NoName => k_is); (case cd_NoName => k_is); (case kf_NoName => k_is); (case aC_NoNumber => k_is); (case md_NoNumber => kx_is); (case kC_NoNumber => k_is); (case hg_NoNumber => k_is); (case hk_NoNumber => k_is); (case hs_NoNumber => k_is); (case hd_NoNumber => k_is); (case ha_NoNumber => k_is); (case hm_NoNumber => k_is); (case ov_NoNumber => kx_is); (case sa_NoNumber => k_is); (case ic_NoNumber => k_is); (case ti_NoNumber => k_is); (case lk_NoNumber => k_is); (case cd_NoNumber => k_is); (case kf_NoNumber => k_is); (case aC_NothingDone => k_is); (case md_NothingDone => kx_is); (case kC_NothingDone => k_is); (case hg_NothingDone => k_is); (case hk_NothingDone => k_is); (case hs_NothingDone => k_is); (case hd_NothingDone => k_is); (case ha_NothingDone => k_is); (case hm_NothingDone => k_is); (case ic_NothingDone => k_is); (case aC_NoReader => k_is); (case md_NoReader => kx_is); (case kC_NoReader => k_is); (case hg_NoReader => k_is); (case hk_NoReader => k_is); (case hs_NoReader => k_is); (case hd_NoReader => k_is); (case ha_NoReader => k_is); (case hm_NoReader => k_is); (case ic_NoReader => k_is); (case aC_Twice => k_is); (case md_Twice => kx_is); (case kC_Twice => k_is); (case hg_Twice => k_is); (case hk_Twice => k_is); (case hs_Twice => k_is); (case hd_Twice => k_is); (case ha_Twice => k_is); (case hm_Twice => k_is); (case ov_Twice => kx_is); (case sa_Twice => k_is); (case ic_Twice => k_is); (case ti_Twice => k_is); (case lk_Twice => k_is); (case cd_Twice => k_is); (case kf_Twice => k_is); (case aC_NotJoined => k_is); (case md_NotJoined => kx_is); (case kC_NotJoined => k_is); (case hg_NotJoined => k_is); (case hk_NotJoined => k_is); (case hs_NotJoined => k_is); (case hd_NotJoined => k_is); (case ha_NotJoined => k_is); (case hm_NotJoined => k_is); (case ov_NotJoined => kx_is); (case sa_NotJoined => k_is); (case ic_NotJoined => k_is); (case ti_NotJoined => k_is); (case lk_NotJoined => k_is); (case cd_NotJoined => k_is); (case kf_NotJoined => k_is); (case aC_BadText => k_is); (case md_BadText => kx_is); (case kC_BadText => k_is); (case hg_BadText => k_is); (case hk_BadText => k_is); (case hs_BadText => k_is); (case hd_BadText => k_is); (case ha_BadText => k_is); (case hm_BadText => k_is); (case ic_BadText => k_is); (case aC_BadLine => k_is); (case md_BadLine => kx_is); (case kC_BadLine => k_is); (case hg_BadLine => k_is); (case hk_BadLine => k_is); (case hs_BadLine => k_is); (case hd_BadLine => k_is); (case ha_BadLine => k_is); (case hm_BadLine => k_is); (case ov_BadLine => kx_is); (case sa_BadLine => k_is); (case ic_BadLine => k_is); (case ti_BadLine => k_is); (case lk_BadLine => k_is); (case cd_BadLine => k_is); (case kf_BadLine => k_is); (case hn => k_is); (case ht => k_is); (case q_l0 => kit_is); (case q_a0 => kit_is); (case q_v0 => kit_is); (case q_k00 => kit_is); (case q_k01 => kit_is); (case q_k02 => kit_is); (case q_k03 => kit_is); (case q_k04 => kit_is); (case q_k05 => kit_is); (case q_k06 => kit_is); (case q_k07 => kit_is); (case q_l1 => kit_is); (case q_a1 => kit_is); (case q_v1 => kit_is); (case q_k10 => kit_is); (case q_k11 => kit_is); (case q_k12 => kit_is); (case q_k13 => kit_is); (case q_k14 => kit_is); (case q_k15 => kit_is); (case q_k16 => kit_is); (case q_k17 => kit_is); (case q_l2 => kit_is); (case q_a2 => kit_is); (case q_v2 => kit_is); (case q_k20 => kit_is); (case q_k21 => kit_is); (case q_k22 => kit_is); (case q_k23 => kit_is); (case q_k24 => kit_is); (case q_k25 => kit_is); (case q_k26 => kit_is); (case q_k27 => kit_is); (case q_l3 => kit_is); (case q_v3 => kit_is); (case q_k30 => kit_is); (case q_k31 => kit_is); (case q_k32 => kit_is); (case q_k33 => kit_is); (case q_k34 => kit_is); (case q_k35 => kit_is); (case q_k36 => kit_is); (case q_k37 => kit_is); (case q_l4 => kit_is); (case q_v4 => kit_is); (case q_k40 => kit_is); (case q_k41 => kit_is); (case q_k42 => kit_is); (case q_k43 => kit_is); (case q_k44 => kit_is); (case q_k45 => kit_is); (case q_k46 => kit_is); (case q_k47 => kit_is); (case q_l5 => kit_is); (case q_v5 => kit_is); (case q_k50 => kit_is); (case q_k51 => kit_is); (case q_k52 => kit_is); (case q_k53 => kit_is); (case q_k54 => kit_is); (case q_k55 => kit_is); (case q_k56 => kit_is); (case q_k57 => kit_is); (case q_l6 => kit_is); (case q_v6 => kit_is); (case q_k60 => kit_is); (case q_k61 => kit_is); (case q_k62 => kit_is); (case q_k63 => kit_is); (case q_k64 => kit_is); (case q_k65 => kit_is); (case q_k66 => kit_is); (case q_k67 => kit_is); (case q_l7 => kit_is); (case q_v7 => kit_is); (case q_k70 => kit_is); (case q_k71 => kit_is); (case q_k72 => kit_is); (case q_k73 => kit_is); (case q_k74 => kit_is); (case q_k75 => kit_is); (case q_k76 => kit_is); (case q_k77 => kit_is); (case q_t_NoName_name => k_is); (case q_n_NoName_name => k_is); (case q_t_NoNumber_number => k_is); (case q_n_NoNumber_number => k_is); (case q_t_Twice_name => k_is); (case q_n_Twice_name => k_is); (case q_t_BadLine_number => k_is); (case q_n_BadLine_number => k_is); (case q_t_NotJoined_one => k_is); (case q_n_NotJoined_one => k_is); (case q_t_NotJoined_other => k_is); (case q_n_NotJoined_other => k_is); (case a0 => k_is); (case l0 => k_is); (case c0 => k_is); (case k0 => k_is); (case a1 => k_is); (case l1 => k_is); (case c1 => k_is); (case k1 => k_is); (case a2 => k_is); (case l2 => k_is); (case c2 => k_is); (case k2 => k_is); (case a3 => k_is); (case l3 => k_is); (case c3 => k_is); (case k3 => k_is); (case a4 => k_is); (case l4 => k_is); (case c4 => k_is); (case k4 => k_is); (case a5 => k_is); (case l5 => k_is); (case c5 => k_is); (case k5 => k_is); (case a6 => k_is); (case l6 => k_is); (case c6 => k_is); (case k6 => k_is); (case a7 => k_is); (case l7 => k_is); (case c7 => k_is); (case k7 => k_is); (case a8 => k_is); (case l8 => k_is); (case c8 => k_is); (case k8 => k_is); (case z_len => k_is); (case z_abs => k_is); (case z_int => k_is); (case z_list => k_is); (case z_tuple => k_is); (case z_dict => k_is); (case z_bool => k_is); (case z_str => k_is); (case z_range => k_is); (case z_zip => k_is); (case z_enumerate => k_is); (case z_all => k_is); (case z_isinstance => k_is); (case z_sorted => k_is); (case z_min => k_is); (case z_LookupError => k_is); (case z_KeyError => k_is); (case z_IndexError => k_is); (case z_ValueError => k_is)

