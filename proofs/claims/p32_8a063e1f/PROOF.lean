import PyProof.Rows.All
import Wide.All
import OpenK.AllK
import Wide.FinOn
import PyProof.EqAt
import PyProof.EqKinds
import PyProof.TupleCall
import HandS.ForMost
import HandS.IsInst
import HandS.Zip
import HandS.Evl
import HandS.Conv
import HandS.NoneIn
import HandS.Flow
import HandS.Style
import HandS.TupAny
import HandS.TupMul
import HandS.DictComp
import HandS.Wide
import KE.KSortTupG
import HandS.Sort
import HandS.New
import PyProof.TupleOfStr
import PyProof.Draws
import PyProof.EnumMake
import PyProof.EnumFor
import PySem.Challenge.RW_oldornew_k32_walks_or_none
set_option Elab.async false
set_option linter.all false
set_option maxRecDepth 100000
set_option maxHeartbeats 2000000
/-! Data in the heap, told by trees: what an expression gives is told as data alone, the heap goes along. -/
namespace DL
open PySem PySem.Spec PyProof.Rows L2
open Evl (Ex)

/-- from the data Hd within the heap H to the data Hd' within H': all stays; what is new among the data was not there -/
structure Ext (Hd H Hd' H' : Hp) : Prop where
  d : Ex Hd Hd'
  h : Ex H H'
  i : Ex Hd' H'
  f : ∀ a o, Hd a = none → H a = some o → Hd' a = none
theorem Ext.refl {Hd H : Hp} (e : Ex Hd H) : Ext Hd H Hd H := ⟨.refl _, .refl _, e, fun _ _ h _ => h⟩
theorem Ext.trans {A H B G C F : Hp} (a : Ext A H B G) (b : Ext B G C F) : Ext A H C F :=
  ⟨a.d.trans b.d, a.h.trans b.h, b.i, fun x o h1 h2 => b.f x o (a.f x o h1 h2) (a.h x o h2)⟩
/-- a new thing that is not taken among the data -/
theorem Ext.mut {A H B G : Hp} (e : Ext A H B G) {p : Addr} {o : HO} (hp : H p = none) (hB : B p = none) : Ext A H B (upd G p o) :=
  ⟨e.d, e.h.mut hp, fun a u ha => by rw [upd_ne (ne_of_none ha hB)]; exact e.i a u ha, e.f⟩
/-- a new thing that is taken among the data -/
theorem Ext.take {A H B G : Hp} (e : Ext A H B G) {p : Addr} {o : HO} (hp : H p = none) (hB : B p = none) (hG : G p = some o) : Ext A H (upd B p o) G :=
  ⟨e.d.trans (Ex.new hB), e.h, fun a u ha => by
    by_cases z : a = p
    · subst z; rw [upd_same] at ha; cases ha; exact hG
    · rw [upd_ne z] at ha; exact e.i a u ha, fun a u h1 h2 => by
    by_cases z : a = p
    · subst z; rw [hp] at h2; cases h2
    · rw [upd_ne z]; exact e.f a u h1 h2⟩
theorem Ext.new {A H B G : Hp} (e : Ext A H B G) {p : Addr} {o : HO} (hp : G p = none) : Ext A H (upd B p o) (upd G p o) := by
  have hB := Evl.fresh_back e.i hp
  have hH := Evl.fresh_back e.h hp
  exact (e.mut hH hB).take hH hB upd_same

mutual
/-- the value v is the data d -/
inductive Dt (K : PySem.W.Frag) (H : Hp) : V → PyData → Prop
  | non : Dt K H .non .none
  | bl (b : Bool) : Dt K H (.bl b) (.bool b)
  | int (i : Int) : Dt K H (.int i) (.int i)
  | str (x : Str) : Dt K H (.str x) (.str x)
  | lst {a : Addr} {xs : List V} {ds : List PyData} : H a = some (.lst xs) → DtA K H xs ds → Dt K H (.ref a) (.list ds)
  | tup {a : Addr} {xs : List V} {ds : List PyData} : H a = some (.tup xs) → DtA K H xs ds → Dt K H (.ref a) (.tuple ds)
  | dct {a : Addr} {ks : List (Key × V)} {kvs : List (PyData × PyData)} : H a = some (.dK ks) → DtK K H ks kvs → Dt K H (.ref a) (.dict kvs)
inductive DtK (K : PySem.W.Frag) (H : Hp) : List (Key × V) → List (PyData × PyData) → Prop
  | nil : DtK K H [] []
  | cons {x : Str} {v : V} {ks : List (Key × V)} {d : PyData} {kvs : List (PyData × PyData)} : Dt K H v d → DtK K H ks kvs → DtK K H ((.inr x, v) :: ks) ((.str x, d) :: kvs)
inductive DtA (K : PySem.W.Frag) (H : Hp) : List V → List PyData → Prop
  | nil : DtA K H [] []
  | cons {v : V} {vs : List V} {d : PyData} {ds : List PyData} : Dt K H v d → DtA K H vs ds → DtA K H (v :: vs) (d :: ds)
end
section
variable {K : PySem.W.Frag} {H H' : Hp}
mutual
theorem Dt.mono (e : Ex H H') : ∀ {d : PyData} {v : V}, Dt K H v d → Dt K H' v d
  | .none, _, h => by cases h; exact .non
  | .bool b, _, h => by cases h; exact .bl b
  | .int b, _, h => by cases h; exact .int b
  | .str b, _, h => by cases h; exact .str b
  | .list ds, _, h => by
    cases h with
    | lst h1 h2 => exact .lst (e _ _ h1) (DtA.mono e h2)
  | .tuple ds, _, h => by
    cases h with
    | tup h1 h2 => exact .tup (e _ _ h1) (DtA.mono e h2)
  | .dict kvs, _, h => by
    cases h with
    | dct h1 h2 => exact .dct (e _ _ h1) (DtK.mono e h2)
theorem DtK.mono (e : Ex H H') : ∀ {kvs : List (PyData × PyData)} {ks : List (Key × V)}, DtK K H ks kvs → DtK K H' ks kvs
  | [], _, h => by cases h; exact .nil
  | (_, d) :: kvs, _, h => by
    cases h with
    | cons h1 h2 => exact .cons (Dt.mono e h1) (DtK.mono e h2)
theorem DtA.mono (e : Ex H H') : ∀ {ds : List PyData} {vs : List V}, DtA K H vs ds → DtA K H' vs ds
  | [], _, h => by cases h; exact .nil
  | d :: ds, _, h => by
    cases h with
    | cons h1 h2 => exact .cons (Dt.mono e h1) (DtA.mono e h2)
end
mutual
theorem Dt.dp : ∀ {d : PyData} {v : V}, PyData.canLay0 d = true → Dt K H v d → Dp K H v d
  | .none, _, _, h => by cases h; exact .non
  | .bool b, _, _, h => by cases h; exact .bl b
  | .int b, _, _, h => by cases h; exact .int b
  | .str b, _, _, h => by cases h; exact .str b
  | .list ds, _, c, h => by
    cases h with
    | lst h1 h2 => exact .lst (SqL.of h1) (DtA.dp (by simpa [PyData.canLay0] using c) h2)
  | .tuple ds, _, c, h => by
    cases h with
    | tup h1 h2 => exact .tup (SqT.of h1) (DtA.dp (by simpa [PyData.canLay0] using c) h2)
  | .dict _, _, c, h => by simp [PyData.canLay0] at c
theorem DtA.dp : ∀ {ds : List PyData} {vs : List V}, PyData.canLayAll0 ds = true → DtA K H vs ds → DpAll K H vs ds
  | [], _, _, h => by cases h; exact .nil
  | d :: ds, _, c, h => by
    simp only [PyData.canLayAll0, Bool.and_eq_true] at c
    cases h with
    | cons h1 h2 => exact .cons (Dt.dp c.1 h1) (DtA.dp c.2 h2)
end
theorem DtA.length : ∀ {vs : List V} {ds : List PyData}, DtA K H vs ds → vs.length = ds.length
  | [], _, h => by cases h; rfl
  | v :: vs, _, h => by
    cases h with
    | cons h1 h2 => simp [DtA.length h2]
theorem DtA.append : ∀ {vs ws : List V} {ds es : List PyData}, DtA K H vs ds → DtA K H ws es → DtA K H (vs ++ ws) (ds ++ es)
  | [], _, _, _, h, g => by cases h; exact g
  | v :: vs, _, _, _, h, g => by
    cases h with
    | cons h1 h2 => exact .cons h1 (DtA.append h2 g)
theorem DtA.get : ∀ {vs : List V} {ds : List PyData} {i : Nat} {v : V}, DtA K H vs ds → vs[i]? = some v → ∃ d, ds[i]? = some d ∧ Dt K H v d
  | [], _, _, _, h, e => by simp at e
  | v :: vs, _, 0, _, h, e => by
    cases h with
    | cons h1 h2 => simp at e; subst e; exact ⟨_, rfl, h1⟩
  | v :: vs, _, i + 1, _, h, e => by
    cases h with
    | cons h1 h2 =>
      obtain ⟨d, a, b⟩ := DtA.get (i := i) h2 (by simpa using e)
      exact ⟨d, by simpa using a, b⟩
theorem DtA.got {vs : List V} {ds : List PyData} {i : Nat} {d : PyData} (h : DtA K H vs ds) (e : ds[i]? = some d) : ∃ v, vs[i]? = some v ∧ Dt K H v d := by
  have hl := h.length
  have hi : i < vs.length := by
    have := (List.getElem?_eq_some_iff.mp e).1
    omega
  obtain ⟨d', a, b⟩ := h.get (i := i) (v := vs[i]) (by simp [hi])
  rw [e] at a
  cases a
  exact ⟨_, by simp [hi], b⟩
theorem DtA.take : ∀ {vs : List V} {ds : List PyData} (n : Nat), DtA K H vs ds → DtA K H (vs.take n) (ds.take n)
  | _, _, 0, _ => by simp; exact .nil
  | [], _, n + 1, h => by cases h; simp; exact .nil
  | v :: vs, _, n + 1, h => by
    cases h with
    | cons h1 h2 => exact .cons h1 (DtA.take n h2)
theorem DtA.drop : ∀ {vs : List V} {ds : List PyData} (n : Nat), DtA K H vs ds → DtA K H (vs.drop n) (ds.drop n)
  | _, _, 0, h => by simpa using h
  | [], _, n + 1, h => by cases h; simp; exact .nil
  | v :: vs, _, n + 1, h => by
    cases h with
    | cons h1 h2 => exact DtA.drop n h2
theorem DtA.rev {vs : List V} {ds : List PyData} (h : DtA K H vs ds) : DtA K H vs.reverse ds.reverse := by
  induction vs generalizing ds with
  | nil => cases h; exact .nil
  | cons v vs ih =>
    cases h with
    | cons h1 h2 =>
      rw [List.reverse_cons, List.reverse_cons]
      exact (ih h2).append (.cons h1 .nil)
theorem DtA.strs : ∀ (xs : List Str), DtA K H (xs.map V.str) (xs.map PyData.str)
  | [] => .nil
  | x :: xs => .cons (.str x) (DtA.strs xs)
theorem DtA.ints : ∀ (xs : List Int), DtA K H (xs.map V.int) (xs.map PyData.int)
  | [] => .nil
  | x :: xs => .cons (.int x) (DtA.ints xs)
theorem DtA.bls : ∀ (xs : List Bool), DtA K H (xs.map V.bl) (xs.map PyData.bool)
  | [] => .nil
  | x :: xs => .cons (.bl x) (DtA.bls xs)
theorem DtA.ofStrs : ∀ {xs : List Str} {vs : List V}, DtA K H vs (xs.map PyData.str) → vs = xs.map V.str
  | [], _, h => by cases h; rfl
  | x :: xs, _, h => by
    cases h with
    | cons h1 h2 => cases h1; rw [DtA.ofStrs h2]; rfl
theorem DtA.ofInts : ∀ {xs : List Int} {vs : List V}, DtA K H vs (xs.map PyData.int) → vs = xs.map V.int
  | [], _, h => by cases h; rfl
  | x :: xs, _, h => by
    cases h with
    | cons h1 h2 => cases h1; rw [DtA.ofInts h2]; rfl
theorem DtA.ofBls : ∀ {xs : List Bool} {vs : List V}, DtA K H vs (xs.map PyData.bool) → vs = xs.map V.bl
  | [], _, h => by cases h; rfl
  | x :: xs, _, h => by
    cases h with
    | cons h1 h2 => cases h1; rw [DtA.ofBls h2]; rfl
end
end DL

namespace DL
open PySem PySem.Spec PyProof.Rows L2
open Evl (Ex)

/-- what is known of a slot: nothing, its value, its data, a list of the def's own with its data -/
inductive G where
  | any | val (v : V) | dat (d : PyData) | own (ds : List PyData)
def GOk (K : PySem.W.Frag) (H0 : Hp) (σ : L2.St) (Hd H : Hp) (i : Nat) : G → Prop
  | .any => True
  | .val v => σ[i]? = some (some v)
  | .dat d => ∃ v, σ[i]? = some (some v) ∧ Dt K Hd v d
  | .own ds => ∃ a vs, σ[i]? = some (some (.ref a)) ∧ H0 a = none ∧ Hd a = none ∧ H a = some (.lst vs) ∧ DtA K Hd vs ds
structure En (K : PySem.W.Frag) (Hd0 H0 : Hp) (Γ : List G) (σ : L2.St) (Hd H : Hp) : Prop where
  x : Ext Hd0 H0 Hd H
  l : Γ.length = σ.length
  g : ∀ i g, Γ[i]? = some g → GOk K H0 σ Hd H i g
  o : ∀ (i j : Nat) (ds es : List PyData) (v : Option (Option V)), i ≠ j → Γ[i]? = some (.own ds) → Γ[j]? = some (.own es) → σ[i]? = v → σ[j]? = v → False
section
variable {K : PySem.W.Frag} {Hd0 H0 Hd H Hd' H' : Hp} {Γ Δ : List G} {σ : L2.St}
theorem En.ext (e : En K Hd0 H0 Γ σ Hd H) (x : Ext Hd H Hd' H') : En K Hd0 H0 Γ σ Hd' H' := by
  refine ⟨e.x.trans x, e.l, fun i g hg => ?_, e.o⟩
  have q := e.g i g hg
  cases g with
  | any => trivial
  | val v => exact q
  | dat d =>
    obtain ⟨v, h1, h2⟩ := q
    exact ⟨v, h1, h2.mono x.d⟩
  | own ds =>
    obtain ⟨a, vs, h1, h0, h2, h3, h4⟩ := q
    exact ⟨a, vs, h1, h0, x.f _ _ h2 h3, x.h _ _ h3, h4.mono x.d⟩
theorem En.dat (e : En K Hd0 H0 Γ σ Hd H) {i : Nat} {d : PyData} (h : Γ[i]? = some (.dat d)) : ∃ v, σ[i]? = some (some v) ∧ Dt K Hd v d := e.g i _ h
theorem En.own (e : En K Hd0 H0 Γ σ Hd H) {i : Nat} {ds : List PyData} (h : Γ[i]? = some (.own ds)) : ∃ a vs, σ[i]? = some (some (.ref a)) ∧ H0 a = none ∧ Hd a = none ∧ H a = some (.lst vs) ∧ DtA K Hd vs ds := e.g i _ h
theorem get_set_eq {α : Type} {l : List α} {i : Nat} {a b : α} (h : (l.set i a)[i]? = some b) : b = a := by
  rw [List.getElem?_set_self'] at h
  cases e : l[i]? with
  | none => rw [e] at h; cases h
  | some c => rw [e] at h; exact (Option.some.inj h).symm
/-- a slot is given a value whose data is known -/
theorem En.set (e : En K Hd0 H0 Γ σ Hd H) {i : Nat} {v : V} {d : PyData} (hd : Dt K Hd v d) : En K Hd0 H0 (Γ.set i (.dat d)) (σ.set i (some v)) Hd H := by
  refine ⟨e.x, by simp [e.l], fun j g hg => ?_, fun j k ds es w hjk h1 h2 => ?_⟩
  · by_cases z : i = j
    · subst z
      have q := get_set_eq hg
      subst q
      have hi : i < Γ.length := by
        have := (List.getElem?_eq_some_iff.mp hg).1
        simpa using this
      exact ⟨v, by simp [e.l ▸ hi], hd⟩
    · rw [List.getElem?_set_ne z] at hg
      have q := e.g j g hg
      cases g with
      | any => trivial
      | val v => show (σ.set i _)[j]? = _; rw [List.getElem?_set_ne z]; exact q
      | dat d => obtain ⟨v, h1, h2⟩ := q; exact ⟨v, by rw [List.getElem?_set_ne z]; exact h1, h2⟩
      | own ds => obtain ⟨a, vs, h1, h2⟩ := q; exact ⟨a, vs, by rw [List.getElem?_set_ne z]; exact h1, h2⟩
  · have nj : i ≠ j := fun z => by subst z; exact nomatch get_set_eq h1
    have nk : i ≠ k := fun z => by subst z; exact nomatch get_set_eq h2
    rw [List.getElem?_set_ne nj] at h1 ⊢
    rw [List.getElem?_set_ne nk] at h2 ⊢
    exact e.o j k ds es w hjk h1 h2
theorem En.forget (e : En K Hd0 H0 Γ σ Hd H) {i : Nat} {v : Option V} : En K Hd0 H0 (Γ.set i .any) (σ.set i v) Hd H := by
  refine ⟨e.x, by simp [e.l], fun j g hg => ?_, fun j k ds es w hjk h1 h2 => ?_⟩
  · by_cases z : i = j
    · subst z
      have q := get_set_eq hg
      subst q
      trivial
    · rw [List.getElem?_set_ne z] at hg
      have q := e.g j g hg
      cases g with
      | any => trivial
      | val v => show (σ.set i _)[j]? = _; rw [List.getElem?_set_ne z]; exact q
      | dat d => obtain ⟨v, h1, h2⟩ := q; exact ⟨v, by rw [List.getElem?_set_ne z]; exact h1, h2⟩
      | own ds => obtain ⟨a, vs, h1, h2⟩ := q; exact ⟨a, vs, by rw [List.getElem?_set_ne z]; exact h1, h2⟩
  · have nj : i ≠ j := fun z => by subst z; exact nomatch get_set_eq h1
    have nk : i ≠ k := fun z => by subst z; exact nomatch get_set_eq h2
    rw [List.getElem?_set_ne nj] at h1 ⊢
    rw [List.getElem?_set_ne nk] at h2 ⊢
    exact e.o j k ds es w hjk h1 h2
/-- less is known -/
theorem En.weak (e : En K Hd0 H0 Γ σ Hd H) {i : Nat} : En K Hd0 H0 (Γ.set i .any) σ Hd H := by
  refine ⟨e.x, by simp [e.l], fun j g hg => ?_, fun j k ds es w hjk h1 h2 => ?_⟩
  · by_cases z : i = j
    · subst z
      have q := get_set_eq hg
      subst q
      trivial
    · rw [List.getElem?_set_ne z] at hg
      exact e.g j g hg
  · have nj : i ≠ j := fun z => by subst z; exact nomatch get_set_eq h1
    have nk : i ≠ k := fun z => by subst z; exact nomatch get_set_eq h2
    rw [List.getElem?_set_ne nj] at h1
    rw [List.getElem?_set_ne nk] at h2
    exact e.o j k ds es w hjk h1 h2
end

section
variable (K : PySem.W.Frag)
/-- te gives the data d -/
def ED (te : TE) (Γ : List G) (d : PyData) : Prop := ∀ Hd0 H0 σ Hd H, En K Hd0 H0 Γ σ Hd H → ∀ Q : VK, (∀ v Hd' H', Ext Hd H Hd' H' → Dt K Hd' v d → Q v H') → te σ H Q
/-- te gives a list that can be read, of the data ds -/
def ER (te : TE) (Γ : List G) (ds : List PyData) : Prop := ∀ Hd0 H0 σ Hd H, En K Hd0 H0 Γ σ Hd H → ∀ Q : VK, (∀ a vs Hd' H', Ext Hd H Hd' H' → H' a = some (.lst vs) → DtA K Hd' vs ds → Q (.ref a) H') → te σ H Q
/-- te gives a new list of the data ds -/
def EF (te : TE) (Γ : List G) (ds : List PyData) : Prop := ∀ Hd0 H0 σ Hd H, En K Hd0 H0 Γ σ Hd H → ∀ Q : VK, (∀ a vs Hd' H', Ext Hd H Hd' H' → H a = none → Hd' a = none → H' a = some (.lst vs) → DtA K Hd' vs ds → Q (.ref a) H') → te σ H Q
/-- a test -/
def ET (tt : TT) (Γ : List G) (b : Bool) : Prop := ∀ Hd0 H0 σ Hd H, En K Hd0 H0 Γ σ Hd H → ∀ Q : Bool → Hp → Prop, (∀ Hd' H', Ext Hd H Hd' H' → Q b H') → tt σ H Q
/-- arguments -/
def EA (ta : TA) (Γ : List G) (ds : List PyData) : Prop := ∀ Hd0 H0 σ Hd H, En K Hd0 H0 Γ σ Hd H → ∀ Q : List V → Hp → Prop, (∀ vs Hd' H', Ext Hd H Hd' H' → DtA K Hd' vs ds → Q vs H') → ta σ H Q
/-- a part of a slice -/
def EO (to : TO) (Γ : List G) (o : Option Int) : Prop := ∀ Hd0 H0 σ Hd H, En K Hd0 H0 Γ σ Hd H → ∀ Q : Option Int → Hp → Prop, (∀ Hd' H', Ext Hd H Hd' H' → Q o H') → to σ H Q
/-- an operation on data -/
def RD (r : R2) (x y z : PyData) : Prop := ∀ Hd H v w, Ex Hd H → Dt K Hd v x → Dt K Hd w y → ∀ Q : VK, (∀ u Hd' H', Ext Hd H Hd' H' → Dt K Hd' u z → Q u H') → r v w H Q
def RF (r : R2) (x y : PyData) (zs : List PyData) : Prop := ∀ Hd H v w, Ex Hd H → Dt K Hd v x → Dt K Hd w y → ∀ Q : VK, (∀ a vs Hd' H', Ext Hd H Hd' H' → H a = none → Hd' a = none → H' a = some (.lst vs) → DtA K Hd' vs zs → Q (.ref a) H') → r v w H Q
def CD (r : List V → Hp → VK → Prop) (xs : List PyData) (z : PyData) : Prop := ∀ Hd H vs, Ex Hd H → DtA K Hd vs xs → ∀ Q : VK, (∀ u Hd' H', Ext Hd H Hd' H' → Dt K Hd' u z → Q u H') → r vs H Q
def CF (r : List V → Hp → VK → Prop) (xs : List PyData) (zs : List PyData) : Prop := ∀ Hd H vs, Ex Hd H → DtA K Hd vs xs → ∀ Q : VK, (∀ a ws Hd' H', Ext Hd H Hd' H' → H a = none → Hd' a = none → H' a = some (.lst ws) → DtA K Hd' ws zs → Q (.ref a) H') → r vs H Q
end

section
variable {K : PySem.W.Frag} {Γ Δ : List G} {ta tb tc te tl : TE} {tt tu : TT} {r : R2} {d e x y z : PyData} {ds es xs ys : List PyData} {b c : Bool}
theorem ed_var {i : Nat} (h : Γ[i]? = some (.dat d)) : ED K (tVar i) Γ d := fun _ _ σ Hd H e Q q => by
  obtain ⟨v, h1, h2⟩ := e.dat h
  exact ⟨v, h1, q v Hd H (.refl e.x.i) h2⟩
theorem er_own {i : Nat} (h : Γ[i]? = some (.own ds)) : ER K (tVar i) Γ ds := fun _ _ σ Hd H e Q q => by
  obtain ⟨a, vs, h1, h0, h2, h3, h4⟩ := e.own h
  exact ⟨_, h1, q a vs Hd H (.refl e.x.i) h3 h4⟩
theorem ed_int {i : Int} : ED K (tC (.int i)) Γ (.int i) := fun _ _ σ Hd H e Q q => q _ Hd H (.refl e.x.i) (.int i)
theorem ed_str {i : Str} : ED K (tC (.str i)) Γ (.str i) := fun _ _ σ Hd H e Q q => q _ Hd H (.refl e.x.i) (.str i)
theorem ed_bl {i : Bool} : ED K (tC (.bl i)) Γ (.bool i) := fun _ _ σ Hd H e Q q => q _ Hd H (.refl e.x.i) (.bl i)
theorem ed_non : ED K (tC .non) Γ .none := fun _ _ σ Hd H e Q q => q _ Hd H (.refl e.x.i) .non
/-- a new list is taken among the data -/
theorem EF.dat (h : EF K te Γ ds) : ED K te Γ (.list ds) := fun _ _ σ Hd H e Q q => h _ _ σ Hd H e Q fun a vs Hd' H' x h1 h2 h3 h4 =>
  q _ (upd Hd' a (.lst vs)) H' (x.take h1 h2 h3) (.lst upd_same (h4.mono (Ex.new h2)))
theorem EF.rd (h : EF K te Γ ds) : ER K te Γ ds := fun _ _ σ Hd H e Q q => h _ _ σ Hd H e Q fun a vs Hd' H' x h1 h2 h3 h4 => q a vs Hd' H' x h3 h4
theorem ED.rd (h : ED K te Γ (.list ds)) : ER K te Γ ds := fun _ _ σ Hd H e Q q => h _ _ σ Hd H e Q fun v Hd' H' x h1 => by
  cases h1 with
  | lst h2 h3 => exact q _ _ Hd' H' x (x.i _ _ h2) h3
theorem ED.is (h : ED K te Γ d) (q : d = e) : ED K te Γ e := q ▸ h
theorem ER.is (h : ER K te Γ ds) (q : ds = es) : ER K te Γ es := q ▸ h
theorem EF.is (h : EF K te Γ ds) (q : ds = es) : EF K te Γ es := q ▸ h
theorem ET.is (h : ET K tt Γ b) (q : b = c) : ET K tt Γ c := q ▸ h
theorem ea_nil : EA K tNil Γ [] := fun _ _ σ Hd H e Q q => q _ Hd H (.refl e.x.i) .nil
theorem ea_cons {tr : TA} (h : ED K ta Γ x) (hr : EA K tr Γ xs) : EA K (tCons ta tr) Γ (x :: xs) := fun _ _ σ Hd H e Q q =>
  h _ _ σ Hd H e _ fun v Hd1 H1 x1 d1 => hr _ _ σ Hd1 H1 (e.ext x1) _ fun vs Hd2 H2 x2 d2 => q _ Hd2 H2 (x1.trans x2) (.cons (d1.mono x2.d) d2)
theorem ed_op (h1 : ED K ta Γ x) (h2 : ED K tb Γ y) (hr : RD K r x y z) : ED K (tOp r ta tb) Γ z := fun _ _ σ Hd H e Q q =>
  h1 _ _ σ Hd H e _ fun v Hd1 H1 x1 d1 => h2 _ _ σ Hd1 H1 (e.ext x1) _ fun w Hd2 H2 x2 d2 => hr Hd2 H2 v w x2.i (d1.mono x2.d) d2 Q fun u Hd3 H3 x3 d3 => q u Hd3 H3 (x1.trans (x2.trans x3)) d3
theorem ef_op (h1 : ED K ta Γ x) (h2 : ED K tb Γ y) (hr : RF K r x y ds) : EF K (tOp r ta tb) Γ ds := fun _ _ σ Hd H e Q q =>
  h1 _ _ σ Hd H e _ fun v Hd1 H1 x1 d1 => h2 _ _ σ Hd1 H1 (e.ext x1) _ fun w Hd2 H2 x2 d2 => hr Hd2 H2 v w x2.i (d1.mono x2.d) d2 Q fun a vs Hd3 H3 x3 n1 n2 n3 d3 =>
    q a vs Hd3 H3 (x1.trans (x2.trans x3)) (Evl.fresh_back (x1.trans x2).h n1) n2 n3 d3
theorem ed_cb {ta : TA} {r : List V → Hp → VK → Prop} (h : EA K ta Γ xs) (hr : CD K r xs z) : ED K (tCB r ta) Γ z := fun _ _ σ Hd H e Q q =>
  h _ _ σ Hd H e _ fun vs Hd1 H1 x1 d1 => hr Hd1 H1 vs x1.i d1 Q fun u Hd2 H2 x2 d2 => q u Hd2 H2 (x1.trans x2) d2
theorem ef_cb {ta : TA} {r : List V → Hp → VK → Prop} (h : EA K ta Γ xs) (hr : CF K r xs ds) : EF K (tCB r ta) Γ ds := fun _ _ σ Hd H e Q q =>
  h _ _ σ Hd H e _ fun vs Hd1 H1 x1 d1 => hr Hd1 H1 vs x1.i d1 Q fun a ws Hd2 H2 x2 n1 n2 n3 d2 => q a ws Hd2 H2 (x1.trans x2) (Evl.fresh_back x1.h n1) n2 n3 d2
theorem fits_of {n : Nat} (h : n ≤ 100000) : n ≤ sizeLine := Nat.le_trans h (by decide)
theorem ed_tup {ta : TA} (h : EA K ta Γ xs) (hl : xs.length ≤ 100000) : ED K (tTup ta) Γ (.tuple xs) := fun _ _ σ Hd H e Q q =>
  h _ _ σ Hd H e _ fun vs Hd1 H1 x1 d1 => ⟨fits_of (d1.length ▸ hl), fun p hp => q _ (upd Hd1 p (.tup vs)) _ (x1.new hp) (.tup upd_same (d1.mono (Ex.new (Evl.fresh_back x1.i hp))))⟩
theorem ef_lst {ta : TA} (h : EA K ta Γ xs) (hl : xs.length ≤ 100000) : EF K (tLst ta) Γ xs := fun _ _ σ Hd H e Q q =>
  h _ _ σ Hd H e _ fun vs Hd1 H1 x1 d1 => ⟨fits_of (d1.length ▸ hl), fun p hp => q p vs Hd1 _ (x1.mut (Evl.fresh_back x1.h hp) (Evl.fresh_back x1.i hp)) (Evl.fresh_back x1.h hp) (Evl.fresh_back x1.i hp) upd_same d1⟩

/-! ### tests -/
theorem et_val (h : ED K te Γ (.bool b)) : ET K (tB te) Γ b := fun _ _ σ Hd H e Q q => h _ _ σ Hd H e _ fun v Hd1 H1 x1 d1 => by
  cases d1
  exact ⟨b, rfl, q Hd1 H1 x1⟩
theorem et_test (h : ED K te Γ (.bool b)) : ET K (tTest te) Γ b := fun _ _ σ Hd H e Q q => h _ _ σ Hd H e _ fun v Hd1 H1 x1 d1 => by
  cases d1
  exact ⟨b, rfl, q Hd1 H1 x1⟩
theorem et_not (h : ET K tt Γ b) : ET K (tNot tt) Γ (!b) := fun _ _ σ Hd H e Q q => h _ _ σ Hd H e _ fun Hd1 H1 x1 => q Hd1 H1 x1
theorem et_and (h1 : ET K tt Γ b) (h2 : b = true → ET K tu Γ c) : ET K (tAnd tt tu) Γ (b && c) := fun _ _ σ Hd H e Q q => h1 _ _ σ Hd H e _ fun Hd1 H1 x1 => by
  cases b with
  | true => exact iteT (h2 rfl _ _ σ Hd1 H1 (e.ext x1) _ fun Hd2 H2 x2 => q Hd2 H2 (x1.trans x2))
  | false => exact iteF (q Hd1 H1 x1)
theorem et_or (h1 : ET K tt Γ b) (h2 : b = false → ET K tu Γ c) : ET K (tOr tt tu) Γ (b || c) := fun _ _ σ Hd H e Q q => h1 _ _ σ Hd H e _ fun Hd1 H1 x1 => by
  cases b with
  | true => exact iteT (q Hd1 H1 x1)
  | false => exact iteF (h2 rfl _ _ σ Hd1 H1 (e.ext x1) _ fun Hd2 H2 x2 => q Hd2 H2 (x1.trans x2))
theorem ed_and (h1 : ED K ta Γ (.bool b)) (h2 : b = true → ED K tb Γ (.bool c)) : ED K (tAndV ta tb) Γ (.bool (b && c)) := fun _ _ σ Hd H e Q q => h1 _ _ σ Hd H e _ fun v Hd1 H1 x1 d1 => by
  cases d1
  refine ⟨b, rfl, ?_⟩
  cases b with
  | true => exact iteT (h2 rfl _ _ σ Hd1 H1 (e.ext x1) _ fun w Hd2 H2 x2 d2 => q w Hd2 H2 (x1.trans x2) d2)
  | false => exact iteF (q _ Hd1 H1 x1 (.bl false))
theorem ed_or (h1 : ED K ta Γ (.bool b)) (h2 : b = false → ED K tb Γ (.bool c)) : ED K (tOrV ta tb) Γ (.bool (b || c)) := fun _ _ σ Hd H e Q q => h1 _ _ σ Hd H e _ fun v Hd1 H1 x1 d1 => by
  cases d1
  refine ⟨b, rfl, ?_⟩
  cases b with
  | true => exact iteT (q _ Hd1 H1 x1 (.bl true))
  | false => exact iteF (h2 rfl _ _ σ Hd1 H1 (e.ext x1) _ fun w Hd2 H2 x2 d2 => q w Hd2 H2 (x1.trans x2) d2)
theorem ed_not (h1 : ED K ta Γ (.bool b)) : ED K (tNotV ta) Γ (.bool (!b)) := fun _ _ σ Hd H e Q q => h1 _ _ σ Hd H e _ fun v Hd1 H1 x1 d1 => by
  cases d1
  exact ⟨b, rfl, q _ Hd1 H1 x1 (.bl _)⟩
theorem ed_if {d : PyData} (h : ET K tt Γ b) (h1 : b = true → ED K ta Γ d) (h2 : b = false → ED K tb Γ d) : ED K (tIf tt ta tb) Γ d := fun _ _ σ Hd H e Q q => h _ _ σ Hd H e _ fun Hd1 H1 x1 => by
  cases b with
  | true => exact iteT (h1 rfl _ _ σ Hd1 H1 (e.ext x1) _ fun w Hd2 H2 x2 d2 => q w Hd2 H2 (x1.trans x2) d2)
  | false => exact iteF (h2 rfl _ _ σ Hd1 H1 (e.ext x1) _ fun w Hd2 H2 x2 d2 => q w Hd2 H2 (x1.trans x2) d2)

/-! ### operators -/
theorem rd_I0 {g : Int → Int → V} {i j : Int} (h : ∀ Hd, Dt K Hd (g i j) z) : RD K (rI0 g) (.int i) (.int j) z := fun Hd H v w e h1 h2 Q q => by
  cases h1; cases h2
  exact ⟨i, j, rfl, rfl, q _ Hd H (.refl e) (h Hd)⟩
theorem rd_I {C : Int → Int → Prop} {g : Int → Int → V} {i j : Int} (hc : C i j) (h : ∀ Hd, Dt K Hd (g i j) z) : RD K (rI C g) (.int i) (.int j) z := fun Hd H v w e h1 h2 Q q => by
  cases h1; cases h2
  exact ⟨i, j, rfl, rfl, hc, q _ Hd H (.refl e) (h Hd)⟩
theorem rd_eqD (h1 : SeqAt.shaped x = true) (h2 : SeqAt.shaped y = true) : RD K (rEqD K) x y (.bool (PyData.eqv x y)) := fun Hd H v w e d1 d2 Q q =>
  ⟨x, y, (d1.mono e).dp (SeqAt.canLay_of_shaped h1), (d2.mono e).dp (SeqAt.canLay_of_shaped h2), h1, h2, q _ Hd H (.refl e) (.bl _)⟩
theorem rd_neD (h1 : SeqAt.shaped x = true) (h2 : SeqAt.shaped y = true) : RD K (rNeD K) x y (.bool (!PyData.eqv x y)) := fun Hd H v w e d1 d2 Q q =>
  ⟨x, y, (d1.mono e).dp (SeqAt.canLay_of_shaped h1), (d2.mono e).dp (SeqAt.canLay_of_shaped h2), h1, h2, q _ Hd H (.refl e) (.bl _)⟩
/-- the data that an index gives -/
theorem rd_ixL {i : Int} (h : atI xs i = some z) : RD K (rIx K) (.list xs) (.int i) z := fun Hd H v w e d1 d2 Q q => by
  cases d2
  cases d1 with
  | lst h1 h2 =>
    unfold atI at h
    cases hj : ixN xs.length i with
    | none => rw [hj] at h; cases h
    | some j =>
      rw [hj] at h
      obtain ⟨u, g1, g2⟩ := h2.got (i := j) h
      exact .inl ⟨_, _, i, u, rfl, rfl, SqL.of (e _ _ h1), (by unfold atI; rw [h2.length, hj]; exact g1), q _ Hd H (.refl e) g2⟩
theorem rd_ixT {i : Int} (h : atI xs i = some z) : RD K (rIx K) (.tuple xs) (.int i) z := fun Hd H v w e d1 d2 Q q => by
  cases d2
  cases d1 with
  | tup h1 h2 =>
    unfold atI at h
    cases hj : ixN xs.length i with
    | none => rw [hj] at h; cases h
    | some j =>
      rw [hj] at h
      obtain ⟨u, g1, g2⟩ := h2.got (i := j) h
      exact .inr (.inl ⟨_, _, i, u, rfl, rfl, SqT.of (e _ _ h1), (by unfold atI; rw [h2.length, hj]; exact g1), q _ Hd H (.refl e) g2⟩)
theorem rd_ixS {s : Str} {i : Int} {c : Nat} (hl : s.length ≤ 100000) (h : atI s.cps.toList i = some c) : RD K (rIx K) (.str s) (.int i) (.str ⟨#[c]⟩) := fun Hd H v w e d1 d2 Q q => by
  cases d2
  cases d1
  exact .inr (.inr ⟨s, i, c, rfl, rfl, fits_of hl, h, q _ Hd H (.refl e) (.str _)⟩)
theorem rf_cat (hl : xs.length + ys.length ≤ 100000) : RF K rCat (.list xs) (.list ys) (xs ++ ys) := fun Hd H v w e d1 d2 Q q => by
  cases d1 with
  | lst h1 h2 => cases d2 with
    | lst g1 g2 => exact ⟨_, _, _, _, rfl, rfl, e _ _ h1, e _ _ g1, fits_of (by rw [h2.length, g2.length]; exact hl), fun p hp => q p _ Hd _ ((Ext.refl e).mut hp (Evl.fresh_back e hp)) hp (Evl.fresh_back e hp) upd_same (h2.append g2)⟩
end
end DL

namespace DL
open PySem PySem.Spec PyProof.Rows L2
open Evl (Ex)
open RZ

def wipeG (Γ : List G) : List Nat → List G
  | [] => Γ
  | v :: vs => (wipeG Γ vs).set v .any
theorem En.wipe {K : PySem.W.Frag} {Hd0 H0 Hd H : Hp} {Γ : List G} {σ : L2.St} (e : En K Hd0 H0 Γ σ Hd H) : ∀ vs : List Nat, En K Hd0 H0 (wipeG Γ vs) (wipe σ vs) Hd H
  | [] => e
  | v :: vs => (En.wipe e vs).forget
theorem wipe_set {σ : L2.St} {i : Nat} {x : Option V} : ∀ {vs : List Nat}, i ∈ vs → wipe (σ.set i x) vs = wipe σ vs
  | [], h => by cases h
  | v :: vs, h => by
    show (wipe (σ.set i x) vs).set v none = (wipe σ vs).set v none
    by_cases z : i ∈ vs
    · rw [wipe_set z]
    · have e : i = v := by
        rcases List.mem_cons.mp h with q | q
        · exact q
        · exact absurd q z
      subst e
      have aux : ∀ (ws : List Nat) (τ : L2.St), i ∉ ws → wipe (τ.set i x) ws = (wipe τ ws).set i x := by
        intro ws
        induction ws with
        | nil => intro τ _; rfl
        | cons u us ih =>
          intro τ hn
          have hu : u ≠ i := fun q => hn (by rw [q]; exact List.mem_cons_self)
          have hs : i ∉ us := fun q => hn (List.mem_cons_of_mem _ q)
          show (wipe (τ.set i x) us).set u none = ((wipe τ us).set u none).set i x
          rw [ih τ hs, List.set_comm _ _ hu.symm]
      rw [aux vs σ z, List.set_set]
theorem wipe_wipe {σ : L2.St} {vs : List Nat} : ∀ {ws : List Nat}, (∀ i ∈ ws, i ∈ vs) → wipe (wipe σ ws) vs = wipe σ vs
  | [], _ => rfl
  | w :: ws, h => by
    show wipe ((wipe σ ws).set w none) vs = wipe σ vs
    rw [wipe_set (h w List.mem_cons_self), wipe_wipe fun i hi => h i (List.mem_cons_of_mem _ hi)]

section
variable (K : PySem.W.Frag)
/-- a target takes the data d: what is known afterwards; only the slots vs have changed -/
def GD (g : TG) (Γ : List G) (d : PyData) (vs : List Nat) (Δ : List G) : Prop := ∀ Hd0 H0 σ Hd H v, En K Hd0 H0 Γ σ Hd H → Dt K Hd v d → ∀ Q : L2.St → Hp → Prop, (∀ σ', En K Hd0 H0 Δ σ' Hd H → wipe σ' vs = wipe σ vs → Q σ' H) → g v σ H Q
def GDs (g : TGs) (Γ : List G) (ds : List PyData) (vs : List Nat) (Δ : List G) : Prop := ∀ Hd0 H0 σ Hd H ws, En K Hd0 H0 Γ σ Hd H → DtA K Hd ws ds → ∀ Q : L2.St → Hp → Prop, (∀ σ', En K Hd0 H0 Δ σ' Hd H → wipe σ' vs = wipe σ vs → Q σ' H) → g ws σ H Q
/-- an iterator hands out the data ds, one behind another -/
def ItOk (J : It) (Hd1 : Hp) (ds : List PyData) : Prop := ∀ Hd' H', Ex Hd1 Hd' → Ex Hd' H' → J.stop ds.length H' ∧ ∀ i d, ds[i]? = some d → J.go i H' ∧ ∀ x H'', J.yld i H' x H'' → ∃ Hd'', Ext Hd' H' Hd'' H'' ∧ Dt K Hd'' x d
def EI (wi : TI) (Γ : List G) (ds : List PyData) : Prop := ∀ Hd0 H0 σ Hd H, En K Hd0 H0 Γ σ Hd H → ∀ R : It → Hp → Prop, (∀ J Hd1 H1, Ext Hd H Hd1 H1 → ItOk K J Hd1 ds → R J H1) → wi σ H R
end
section
variable {K : PySem.W.Frag} {Γ Δ Θ : List G} {ta tb tc te tl : TE} {tt tu : TT} {r : R2} {d e x y z : PyData} {ds es xs ys : List PyData} {b c : Bool} {g : TG} {gs : TGs} {vs : List Nat}
theorem gd_name {i : Nat} (h : i ∈ vs) : GD K (gName i) Γ d vs (Γ.set i (.dat d)) := fun _ _ σ Hd H v e hd Q q => q _ (e.set hd) (wipe_set h)
theorem gds_nil : GDs K gNil Γ [] vs Γ := fun _ _ σ Hd H ws e hd Q q => by
  cases hd
  exact ⟨rfl, q σ e rfl⟩
theorem gds_cons (h : GD K g Γ d vs Δ) (hs : GDs K gs Δ ds vs Θ) : GDs K (gCons g gs) Γ (d :: ds) vs Θ := fun _ _ σ Hd H ws e hd Q q => by
  cases hd with
  | cons h1 h2 => exact ⟨_, _, rfl, h _ _ σ Hd H _ e h1 _ fun σ1 e1 w1 => hs _ _ σ1 Hd H _ e1 h2 Q fun σ2 e2 w2 => q σ2 e2 (w2.trans w1)⟩
theorem gd_tup {n : Nat} (h : GDs K gs Γ ds vs Δ) (hn : ds.length = n) : GD K (gTup K n gs) Γ (.tuple ds) vs Δ := fun _ _ σ Hd H v e hd Q q => by
  cases hd with
  | tup h1 h2 => exact ⟨_, _, rfl, SqT.of (e.x.i _ _ h1), by rw [h2.length, hn], h _ _ σ Hd H _ e h2 Q q⟩
/-- a pair of two names -/
theorem gd_two {i j : Nat} (hi : i ∈ vs) (hj : j ∈ vs) : GD K (gTup K 2 (gCons (gName i) (gCons (gName j) gNil))) Γ (.tuple [x, y]) vs ((Γ.set i (.dat x)).set j (.dat y)) :=
  gd_tup (gds_cons (gd_name hi) (gds_cons (gd_name hj) gds_nil)) rfl

/-! ### iterators -/
theorem ei_list (h : ED K tl Γ (.list ds)) : EI K (iList K tl) Γ ds := fun _ _ σ Hd H e R q => h _ _ σ Hd H e _ fun v Hd1 H1 x1 d1 => by
  cases d1 with
  | lst h1 h2 =>
    refine ⟨_, rfl, ⟨_, SqL.of (x1.i _ _ h1)⟩, q _ Hd1 H1 x1 fun Hd' H' e1 e2 => ?_⟩
    have hl := SqL.of (K := K) (e2 _ _ (e1 _ _ h1))
    refine ⟨⟨_, hl, by rw [h2.length]; exact Nat.le_refl _⟩, fun i d hd => ?_⟩
    obtain ⟨u, g1, g2⟩ := h2.got hd
    exact ⟨⟨_, u, hl, g1⟩, fun x H'' ⟨eH, y⟩ => by
      have z := y _ hl
      rw [g1] at z
      cases z
      subst eH
      exact ⟨Hd', .refl e2, g2.mono e1⟩⟩
theorem ei_tup (h : ED K tl Γ (.tuple ds)) : EI K (iTup K tl) Γ ds := fun _ _ σ Hd H e R q => h _ _ σ Hd H e _ fun v Hd1 H1 x1 d1 => by
  cases d1 with
  | tup h1 h2 =>
    refine ⟨_, rfl, ⟨_, SqT.of (x1.i _ _ h1)⟩, q _ Hd1 H1 x1 fun Hd' H' e1 e2 => ?_⟩
    have hl := SqT.of (K := K) (e2 _ _ (e1 _ _ h1))
    refine ⟨⟨_, hl, by rw [h2.length]; exact Nat.le_refl _⟩, fun i d hd => ?_⟩
    obtain ⟨u, g1, g2⟩ := h2.got hd
    exact ⟨⟨_, u, hl, g1⟩, fun x H'' ⟨eH, y⟩ => by
      have z := y _ hl
      rw [g1] at z
      cases z
      subst eH
      exact ⟨Hd', .refl e2, g2.mono e1⟩⟩
theorem ei_rng1 {ta : TA} {n : Int} (h : EA K ta Γ [.int n]) (hn : n ≤ 100000) (h0 : -100000 ≤ n := by omega) : EI K (iRng1 ta) Γ ((List.range n.toNat).map fun (k : Nat) => .int (k : Int)) := fun _ _ σ Hd H e R q => h _ _ σ Hd H e _ fun v Hd1 H1 x1 d1 => by
  cases d1 with
  | cons d1 d2 =>
    cases d1
    cases d2
    refine ⟨n, rfl, by omega, by omega, q _ Hd1 H1 x1 fun Hd' H' e1 e2 => ⟨by simp [Itr]; omega, fun i d hd => ?_⟩⟩
    rw [List.getElem?_map] at hd
    by_cases hi : i < n.toNat
    · rw [List.getElem?_range hi] at hd
      cases hd
      refine ⟨hi, fun x H'' ⟨eH, ex⟩ => ?_⟩
      subst eH ex
      refine ⟨Hd', .refl e2, ?_⟩
      rw [Int.zero_add]
      exact .int _
    · rw [List.getElem?_eq_none (by simpa using hi)] at hd
      cases hd
theorem ei_str {s : Str} (h : ED K te Γ (.str s)) : EI K (iStr te) Γ (s.cps.toList.map fun c => .str ⟨#[c]⟩) := fun _ _ σ Hd H e R q => h _ _ σ Hd H e _ fun v Hd1 H1 x1 d1 => by
  cases d1
  refine ⟨s, rfl, q _ Hd1 H1 x1 fun Hd' H' e1 e2 => ⟨by simp [Its], fun i d hd => ?_⟩⟩
  rw [List.getElem?_map] at hd
  cases hc : s.cps.toList[i]? with
  | none => rw [hc] at hd; cases hd
  | some c =>
    rw [hc] at hd
    cases hd
    have hi : i < s.cps.size := by
      have := (List.getElem?_eq_some_iff.mp hc).1
      simpa using this
    refine ⟨hi, fun x H'' ⟨eH, c', hc', ex⟩ => ?_⟩
    subst eH ex
    have : c' = c := by
      have h2 : s.cps[i]? = some c := by simpa using hc
      rw [h2] at hc'
      exact (Option.some.inj hc').symm
    subst this
    exact ⟨Hd', .refl e2, .str _⟩
/-- pairs of the items of two rows -/
def zipD (xs ys : List PyData) : List PyData := (xs.zip ys).map fun p => .tuple [p.1, p.2]
theorem zipD_get {i : Nat} (h : (zipD xs ys)[i]? = some d) : ∃ x y, xs[i]? = some x ∧ ys[i]? = some y ∧ d = .tuple [x, y] := by
  unfold zipD at h
  rw [List.getElem?_map] at h
  cases hp : (xs.zip ys)[i]? with
  | none => rw [hp] at h; cases h
  | some p =>
    rw [hp] at h
    cases h
    obtain ⟨h1, h2⟩ := List.getElem?_zip_eq_some.mp hp
    exact ⟨p.1, p.2, h1, h2, rfl⟩
theorem zipD_len : (zipD xs ys).length = min xs.length ys.length := by
  unfold zipD
  rw [List.length_map, List.length_zip]
theorem ei_zipT {ta : TA} (h : EA K ta Γ [.tuple xs, .tuple ys]) : EI K (iZipA K ta) Γ (zipD xs ys) := fun _ _ σ Hd H e R q => h _ _ σ Hd H e _ fun v Hd1 H1 x1 d1 => by
  cases d1 with
  | cons d1 d2 =>
    cases d2 with
    | cons d2 d3 =>
      cases d3
      cases d1 with
      | tup h1 h2 => cases d2 with
        | tup k1 k2 =>
          refine ⟨_, _, _, _, rfl, .inr ⟨SqT.of (x1.i _ _ h1), SqT.of (x1.i _ _ k1), q _ Hd1 H1 x1 fun Hd' H' e1 e2 => ?_⟩⟩
          have hl := SqT.of (K := K) (e2 _ _ (e1 _ _ h1))
          have kl := SqT.of (K := K) (e2 _ _ (e1 _ _ k1))
          refine ⟨⟨_, _, hl, kl, ?_⟩, fun i d hd => ?_⟩
          · rw [h2.length, k2.length, zipD_len]
            omega
          · obtain ⟨x, y, hx, hy, rfl⟩ := zipD_get hd
            obtain ⟨u, g1, g2⟩ := h2.got hx
            obtain ⟨w, g3, g4⟩ := k2.got hy
            refine ⟨⟨_, _, u, w, hl, kl, g1, g3⟩, fun x H'' ⟨T, x', y', ex, nT, eH, q1, q2⟩ => ?_⟩
            have z1 := q1 _ hl
            have z2 := q2 _ kl
            rw [g1] at z1
            rw [g3] at z2
            cases z1
            cases z2
            subst ex eH
            have nT' := Evl.fresh_back e2 nT
            exact ⟨upd Hd' T (.tup [u, w]), (Ext.refl e2).new nT, .tup upd_same (.cons ((g2.mono e1).mono (Ex.new nT')) (.cons ((g4.mono e1).mono (Ex.new nT')) .nil))⟩
theorem ei_zipL {ta : TA} (h : EA K ta Γ [.list xs, .list ys]) : EI K (iZipA K ta) Γ (zipD xs ys) := fun _ _ σ Hd H e R q => h _ _ σ Hd H e _ fun v Hd1 H1 x1 d1 => by
  cases d1 with
  | cons d1 d2 =>
    cases d2 with
    | cons d2 d3 =>
      cases d3
      cases d1 with
      | lst h1 h2 => cases d2 with
        | lst k1 k2 =>
          refine ⟨_, _, _, _, rfl, .inl ⟨SqL.of (x1.i _ _ h1), SqL.of (x1.i _ _ k1), q _ Hd1 H1 x1 fun Hd' H' e1 e2 => ?_⟩⟩
          have hl := SqL.of (K := K) (e2 _ _ (e1 _ _ h1))
          have kl := SqL.of (K := K) (e2 _ _ (e1 _ _ k1))
          refine ⟨⟨_, _, hl, kl, ?_⟩, fun i d hd => ?_⟩
          · rw [h2.length, k2.length, zipD_len]
            omega
          · obtain ⟨x, y, hx, hy, rfl⟩ := zipD_get hd
            obtain ⟨u, g1, g2⟩ := h2.got hx
            obtain ⟨w, g3, g4⟩ := k2.got hy
            refine ⟨⟨_, _, u, w, hl, kl, g1, g3⟩, fun x H'' ⟨T, x', y', ex, nT, eH, q1, q2⟩ => ?_⟩
            have z1 := q1 _ hl
            have z2 := q2 _ kl
            rw [g1] at z1
            rw [g3] at z2
            cases z1
            cases z2
            subst ex eH
            have nT' := Evl.fresh_back e2 nT
            exact ⟨upd Hd' T (.tup [u, w]), (Ext.refl e2).new nT, .tup upd_same (.cons ((g2.mono e1).mono (Ex.new nT')) (.cons ((g4.mono e1).mono (Ex.new nT')) .nil))⟩
def enumD (xs : List PyData) : List PyData := zipD ((List.range xs.length).map fun (k : Nat) => .int (k : Int)) xs
theorem ei_enum {ta : TA} (h : EA K ta Γ [.list xs]) : EI K (iEnum K ta) Γ (enumD xs) := fun _ _ σ Hd H e R q => h _ _ σ Hd H e _ fun v Hd1 H1 x1 d1 => by
  cases d1 with
  | cons d1 d2 =>
    cases d2
    cases d1 with
    | lst h1 h2 =>
      refine ⟨_, _, rfl, SqL.of (x1.i _ _ h1), q _ Hd1 H1 x1 fun Hd' H' e1 e2 => ?_⟩
      have hl := SqL.of (K := K) (e2 _ _ (e1 _ _ h1))
      refine ⟨⟨_, hl, ?_⟩, fun i d hd => ?_⟩
      · rw [h2.length]
        unfold enumD
        rw [zipD_len, List.length_map, List.length_range]
        omega
      · obtain ⟨x, y, hx, hy, rfl⟩ := zipD_get hd
        obtain ⟨w, g3, g4⟩ := h2.got hy
        have ex : x = .int (i : Int) := by
          rw [List.getElem?_map] at hx
          have hi : i < xs.length := (List.getElem?_eq_some_iff.mp hy).1
          rw [List.getElem?_range hi] at hx
          exact (Option.some.inj hx).symm
        subst ex
        refine ⟨⟨_, w, hl, g3⟩, fun x H'' ⟨T, x', ex, nT, eH, q1⟩ => ?_⟩
        have z1 := q1 _ hl
        rw [g3] at z1
        cases z1
        subst ex eH
        have nT' := Evl.fresh_back e2 nT
        exact ⟨upd Hd' T (.tup [.int (i : Nat), w]), (Ext.refl e2).new nT, .tup upd_same (.cons (.int _) (.cons ((g4.mono e1).mono (Ex.new nT')) .nil))⟩

/-! ### a list comprehension -/
theorem take_filter_succ {α β : Type} {p : α → Bool} {f : α → β} {l : List α} {i : Nat} {d : α} (h : l[i]? = some d) :
    ((l.take (i + 1)).filter p).map f = ((l.take i).filter p).map f ++ (if p d = true then [f d] else []) := by
  rw [List.take_add_one, h, List.filter_append, List.map_append]
  show _ ++ List.map f (List.filter p [d]) = _
  by_cases z : p d = true
  · rw [if_pos z]; simp [z]
  · rw [if_neg z]; simp [z]
theorem ef_lc {wi : TI} {p : PyData → Bool} {f : PyData → PyData} (hi : EI K wi Γ ds) (hl : ds.length ≤ 100000)
    (ht : ∀ d ∈ ds, ∃ Δ, GD K g (wipeG Γ vs) d vs Δ ∧ ET K tt Δ (p d) ∧ (p d = true → ED K te Δ (f d))) : EF K (tLc wi g tt te vs) Γ ((ds.filter p).map f) := by
  intro Hd0 H0 σ Hd H e Q q
  refine hi _ _ σ Hd H e _ fun J Hd1 H1 x1 ok D hD => ?_
  have nD : H D = none := Evl.fresh_back x1.h hD
  have nD1 : Hd1 D = none := Evl.fresh_back x1.i hD
  refine ⟨fun i m G => m = ds.length - i ∧ i ≤ ds.length ∧ ∃ Hd2 acc, Ext Hd1 H1 Hd2 G ∧ Hd2 D = none ∧ G D = some (.lst acc) ∧ DtA K Hd2 acc (((ds.take i).filter p).map f),
    ⟨ds.length, rfl, Nat.zero_le _, Hd1, [], (Ext.refl x1.i).mut hD nD1, nD1, upd_same, .nil⟩, ?_⟩
  rintro i m G ⟨rfl, hle, Hd2, acc, x2, n2, a2, t2⟩
  obtain ⟨st, go⟩ := ok Hd2 G x2.d x2.i
  by_cases hlt : i < ds.length
  · have hd : ds[i]? = some ds[i] := by simp [hlt]
    obtain ⟨gi, yl⟩ := go i _ hd
    refine .inr ⟨gi, fun G' => ∃ Hd2 acc, Ext Hd1 H1 Hd2 G' ∧ Hd2 D = none ∧ G' D = some (.lst acc) ∧ DtA K Hd2 acc (((ds.take (i + 1)).filter p).map f), fun G' w => ⟨ds.length - (i + 1), by omega, rfl, hlt, w⟩, fun x H3 y3 => ?_⟩
    obtain ⟨Hd3, x3, d3⟩ := yl x H3 y3
    obtain ⟨Δ, hg, htt, hte⟩ := ht _ (List.getElem_mem hlt)
    have x13 := x2.trans x3
    have n3 : Hd3 D = none := x3.f _ _ n2 a2
    have a3 := x3.h _ _ a2
    refine hg _ _ _ Hd3 H3 x ((e.ext (x1.trans x13)).wipe vs) d3 _ fun σ2 e2 w2 => ⟨w2.trans (wipe_wipe fun _ z => z), ?_⟩
    refine htt _ _ σ2 Hd3 H3 e2 _ fun Hd4 H4 x4 => ?_
    have n4 : Hd4 D = none := x4.f _ _ n3 a3
    have a4 := x4.h _ _ a3
    have l4 : acc.length < sizeLine := by
      have l0 := t2.length
      rw [List.length_map] at l0
      have l1 := List.length_filter_le p (ds.take i)
      rw [List.length_take] at l1
      have l2 : acc.length < 100000 := by omega
      exact Nat.lt_of_lt_of_le l2 (by decide)
    rw [take_filter_succ hd]
    by_cases z : p ds[i] = true
    · rw [if_pos z, if_pos z]
      refine hte z _ _ σ2 Hd4 H4 (e2.ext x4) _ fun y Hd5 H5 x5 d5 => ⟨acc, x5.h _ _ a4, l4, Hd5, _, ((x13.trans (x4.trans x5)).mut hD (x5.f _ _ n4 a4)), x5.f _ _ n4 a4, upd_same, ?_⟩
      exact (t2.mono (x3.d.trans (x4.d.trans x5.d))).append (.cons d5 .nil)
    · rw [if_neg z, if_neg z, List.append_nil]
      exact ⟨Hd4, acc, x13.trans x4, n4, a4, t2.mono (x3.d.trans x4.d)⟩
  · have ei : i = ds.length := by omega
    subst ei
    rw [List.take_length] at t2
    exact .inl ⟨st, q D acc Hd2 G (x1.trans x2) nD n2 a2 t2⟩
theorem et_yes : ET K tYes Γ true := fun _ _ σ Hd H e Q q => q Hd H (.refl e.x.i)
/-- no test -/
theorem ef_lc0 {wi : TI} {f : PyData → PyData} (hi : EI K wi Γ ds) (hl : ds.length ≤ 100000)
    (ht : ∀ d ∈ ds, ∃ Δ, GD K g (wipeG Γ vs) d vs Δ ∧ ED K te Δ (f d)) : EF K (tLc wi g tYes te vs) Γ (ds.map f) := by
  have h := ef_lc (p := fun _ => true) (f := f) hi hl fun d hd => let ⟨Δ, a, b⟩ := ht d hd; ⟨Δ, a, et_yes, fun _ => b⟩
  have z : ds.filter (fun _ => true) = ds := List.filter_eq_self.mpr fun _ _ => rfl
  rw [z] at h
  exact h
end
end DL

namespace DL
open PySem PySem.Spec PyProof.Rows L2
open Evl (Ex)
open RZ

/-! ### statements -/
inductive Out where
  | nx (Γ : List G) | rt (d : PyData)
def OutOk (K : PySem.W.Frag) (Hd0 H0 Hd : Hp) (D : Ends) : Out → Prop
  | .nx Γ => ∀ σ' Hd' H', En K Hd0 H0 Γ σ' Hd' H' → Ex Hd Hd' → D.nx σ' H'
  | .rt d => ∀ v Hd' H', Ext Hd0 H0 Hd' H' → Dt K Hd' v d → D.rt v H'
theorem OutOk.mono {K : PySem.W.Frag} {Hd0 H0 Hd Hd1 : Hp} {D : Ends} {o : Out} (h : OutOk K Hd0 H0 Hd D o) (e : Ex Hd Hd1) : OutOk K Hd0 H0 Hd1 D o := by
  cases o with
  | nx Γ => exact fun σ' Hd' H' n x => h σ' Hd' H' n (e.trans x)
  | rt d => exact h
def SD (K : PySem.W.Frag) (ts : TS) (Γ : List G) (o : Out) : Prop := ∀ Hd0 H0 σ Hd H, En K Hd0 H0 Γ σ Hd H → ∀ D : Ends, OutOk K Hd0 H0 Hd D o → ts D σ H
section
variable {K : PySem.W.Frag} {Γ Δ Θ : List G} {ta tb tc te tl : TE} {tt tu : TT} {d e x y z : PyData} {ds es xs ys : List PyData} {b c : Bool} {g : TG} {gs : TGs} {vs : List Nat} {t u : TS} {o : Out} {i j : Nat}
theorem sd_seq (h : SD K t Γ (.nx Δ)) (k : SD K u Δ o) : SD K (tSeq t u) Γ o := fun _ _ σ Hd H e D q =>
  h _ _ σ Hd H e _ fun σ' Hd' H' e' x => k _ _ σ' Hd' H' e' D (q.mono x)
theorem sd_seqR (h : SD K t Γ (.rt d)) : SD K (tSeq t u) Γ (.rt d) := fun _ _ σ Hd H e D q => h _ _ σ Hd H e _ q
theorem sd_next : SD K tNext Γ (.nx Γ) := fun _ _ σ Hd H e D q => q σ Hd H e (.refl _)
theorem sd_asg (h : ED K te Γ d) (hg : GD K g Γ d vs Δ) : SD K (tAsg te g) Γ (.nx Δ) := fun _ _ σ Hd H e D q =>
  h _ _ σ Hd H e _ fun v Hd1 H1 x1 d1 => hg _ _ σ Hd1 H1 v (e.ext x1) d1 _ fun σ' e' _ => q σ' Hd1 H1 e' x1.d
theorem sd_set (h : ED K te Γ d) : SD K (tAsg te (gName i)) Γ (.nx (Γ.set i (.dat d))) := sd_asg h (gd_name (vs := [i]) (List.mem_singleton.mpr rfl))
/-- a new list that the def keeps for itself -/
theorem En.setOwn {Hd0 H0 Hd H : Hp} {σ : L2.St} (e : En K Hd0 H0 Γ σ Hd H) {a : Addr} {ws : List V} (n0 : H0 a = none) (n1 : Hd a = none) (h : H a = some (.lst ws)) (hd : DtA K Hd ws ds)
    (new : ∀ (j : Nat) (es : List PyData), Γ[j]? = some (G.own es) → σ[j]? ≠ some (some (V.ref a))) : En K Hd0 H0 (Γ.set i (.own ds)) (σ.set i (some (.ref a))) Hd H := by
  refine ⟨e.x, by simp [e.l], fun j g hg => ?_, fun j k fs es w hjk h1 h2 w1 w2 => ?_⟩
  · by_cases z : i = j
    · subst z
      have q := get_set_eq hg
      subst q
      have hi : i < Γ.length := by
        have := (List.getElem?_eq_some_iff.mp hg).1
        simpa using this
      exact ⟨a, ws, by simp [e.l ▸ hi], n0, n1, h, hd⟩
    · rw [List.getElem?_set_ne z] at hg
      have q := e.g j g hg
      cases g with
      | any => trivial
      | val v => show (σ.set i _)[j]? = _; rw [List.getElem?_set_ne z]; exact q
      | dat d => obtain ⟨v, h1, h2⟩ := q; exact ⟨v, by rw [List.getElem?_set_ne z]; exact h1, h2⟩
      | own ds => obtain ⟨a, vs, h1, h2⟩ := q; exact ⟨a, vs, by rw [List.getElem?_set_ne z]; exact h1, h2⟩
  · have slot : ∀ (m : Nat) (l : G), (Γ.set i (.own ds))[m]? = some l → m = i → (σ.set i (some (.ref a)))[m]? = some (some (.ref a)) := fun m l hm z => by
      subst z
      have hi : m < Γ.length := by
        have := (List.getElem?_eq_some_iff.mp hm).1
        simpa using this
      simp [e.l ▸ hi]
    by_cases zj : j = i
    · have s1 := slot j _ h1 zj
      have nk : i ≠ k := fun z => hjk (zj.trans z)
      rw [List.getElem?_set_ne nk] at h2 w2
      rw [s1] at w1
      rw [← w1] at w2
      exact new k es h2 w2
    · by_cases zk : k = i
      · have s2 := slot k _ h2 zk
        have nj : i ≠ j := fun z => zj z.symm
        rw [List.getElem?_set_ne nj] at h1 w1
        rw [s2] at w2
        rw [← w2] at w1
        exact new j fs h1 w1
      · have nj : i ≠ j := fun z => zj z.symm
        have nk : i ≠ k := fun z => zk z.symm
        rw [List.getElem?_set_ne nj] at h1 w1
        rw [List.getElem?_set_ne nk] at h2 w2
        exact e.o j k fs es w hjk h1 h2 w1 w2
theorem sd_own (h : EF K te Γ ds) : SD K (tAsg te (gName i)) Γ (.nx (Γ.set i (.own ds))) := fun _ _ σ Hd H e D q =>
  h _ _ σ Hd H e _ fun a ws Hd1 H1 x1 n1 n2 h1 d1 => q _ Hd1 H1 ((e.ext x1).setOwn (Evl.fresh_back e.x.h n1) n2 h1 d1 fun j es hj hs => by
    obtain ⟨b, vs, g1, _, _, g4, _⟩ := e.own hj
    rw [hs] at g1
    cases g1
    rw [n1] at g4
    cases g4) x1.d
/-- an own list becomes data: nobody changes it any more -/
theorem sd_freeze (hi : Γ[i]? = some (.own ds)) (h : SD K t (Γ.set i (.dat (.list ds))) o) : SD K t Γ o := fun Hd0 H0 σ Hd H e D q => by
  obtain ⟨a, ws, s1, n0, n1, h1, d1⟩ := e.own hi
  have xe : Ext Hd0 H0 (upd Hd a (.lst ws)) H := e.x.take n0 n1 h1
  have en : En K Hd0 H0 (Γ.set i (.dat (.list ds))) σ (upd Hd a (.lst ws)) H := by
    refine ⟨xe, by simp [e.l], fun j g hg => ?_, fun j k fs es w hjk g1 g2 => ?_⟩
    · by_cases z : i = j
      · subst z
        have q := get_set_eq hg
        subst q
        exact ⟨_, s1, .lst upd_same (d1.mono (Ex.new n1))⟩
      · rw [List.getElem?_set_ne z] at hg
        have q := e.g j g hg
        cases g with
        | any => trivial
        | val v => exact q
        | dat d => obtain ⟨v, k1, k2⟩ := q; exact ⟨v, k1, k2.mono (Ex.new n1)⟩
        | own es =>
          obtain ⟨b, vs, k1, k0, k2, k3, k4⟩ := q
          have nb : b ≠ a := fun zb => by
            subst zb
            exact e.o i j ds es _ z hi hg s1 k1
          exact ⟨b, vs, k1, k0, by rw [upd_ne nb]; exact k2, k3, k4.mono (Ex.new n1)⟩
    · have nj : i ≠ j := fun z => by subst z; exact nomatch get_set_eq g1
      have nk : i ≠ k := fun z => by subst z; exact nomatch get_set_eq g2
      rw [List.getElem?_set_ne nj] at g1
      rw [List.getElem?_set_ne nk] at g2
      exact e.o j k fs es w hjk g1 g2
  exact h _ _ σ _ H en D (q.mono (Ex.new n1))
theorem tyV_list {H : Hp} {p : Addr} {xs : List V} (h : H p = some (.lst xs)) : tyV K "list" (.ref p) H := .inl ⟨rfl, xs, SqL.of h⟩
/-- name.append(e) of an own list -/
theorem sd_app (hi : Γ[i]? = some (.own ds)) (h : ED K te Γ d) (hl : ds.length < 100000) : SD K (tDrop (tBM K "list" rAppend (tVar i) (tCons te tNil))) Γ (.nx (Γ.set i (.own (ds ++ [d])))) := fun Hd0 H0 σ Hd H e D q => by
  obtain ⟨a, ws, s1, n0, n1, h1, d1⟩ := e.own hi
  refine ⟨_, s1, tyV_list h1, ?_⟩
  refine h _ _ σ Hd H e _ fun v Hd1 H1 x1 dv => ?_
  have e1 := e.ext x1
  have h2 := x1.h _ _ h1
  have n2 := x1.f _ _ n1 h1
  refine ⟨a, ws, v, rfl, rfl, h2, Nat.lt_of_lt_of_le (by rw [d1.length]; exact hl) (by decide : 100000 ≤ sizeLine), ?_⟩
  have dn : DtA K Hd1 (ws ++ [v]) (ds ++ [d]) := (d1.mono x1.d).append (.cons dv .nil)
  refine q σ Hd1 (upd H1 a (.lst (ws ++ [v]))) ⟨e1.x.mut n0 n2, by simp [e1.l], fun j g hg => ?_, fun j k fs es w hjk g1 g2 => ?_⟩ x1.d
  · by_cases z : i = j
    · subst z
      have q := get_set_eq hg
      subst q
      exact ⟨a, _, s1, n0, n2, upd_same, dn⟩
    · rw [List.getElem?_set_ne z] at hg
      have q := e1.g j g hg
      cases g with
      | any => trivial
      | val v => exact q
      | dat d => exact q
      | own es =>
        obtain ⟨b, vs, k1, k0, k2, k3, k4⟩ := q
        have nb : b ≠ a := fun zb => by
          subst zb
          exact e1.o i j ds es _ z hi hg s1 k1
        exact ⟨b, vs, k1, k0, k2, by rw [upd_ne nb]; exact k3, k4⟩
  · have aux : ∀ (m : Nat) (l : List PyData), (Γ.set i (.own (ds ++ [d])))[m]? = some (G.own l) → ∃ l' : List PyData, Γ[m]? = some (G.own l') := fun m l hm => by
      by_cases z : i = m
      · subst z; exact ⟨_, hi⟩
      · rw [List.getElem?_set_ne z] at hm; exact ⟨_, hm⟩
    obtain ⟨l1, a1⟩ := aux j _ g1
    obtain ⟨l2, a2⟩ := aux k _ g2
    exact e1.o j k l1 l2 w hjk a1 a2
theorem sd_ret (h : ED K te Γ d) : SD K (tRet te) Γ (.rt d) := fun _ _ σ Hd H e D q => h _ _ σ Hd H e _ fun v Hd1 H1 x1 d1 => q v Hd1 H1 (e.x.trans x1) d1
theorem sd_if (h : ET K tt Γ b) (h1 : b = true → SD K t Γ o) (h2 : b = false → SD K u Γ o) : SD K (tIfS tt t u) Γ o := fun _ _ σ Hd H e D q =>
  h _ _ σ Hd H e _ fun Hd1 H1 x1 => by
    cases b with
    | true => exact iteT (h1 rfl _ _ σ Hd1 H1 (e.ext x1) D (q.mono x1.d))
    | false => exact iteF (h2 rfl _ _ σ Hd1 H1 (e.ext x1) D (q.mono x1.d))
/-- if c: return ..; something behind -/
theorem sd_ifR {t' : TS} (h : ET K tt Γ b) (h1 : b = true → SD K t Γ o) (h2 : b = false → SD K t' Γ o) (ho : ∀ Δ, o ≠ .nx Δ) : SD K (tSeq (tIfS tt t tNext) t') Γ o := fun _ _ σ Hd H e D q =>
  h _ _ σ Hd H e _ fun Hd1 H1 x1 => by
    cases b with
    | true =>
      refine iteT (h1 rfl _ _ σ Hd1 H1 (e.ext x1) _ ?_)
      cases o with
      | nx Δ => exact absurd rfl (ho Δ)
      | rt d => exact q
    | false => exact iteF (h2 rfl _ _ σ Hd1 H1 (e.ext x1) D (q.mono x1.d))
/-- a loop without a way out -/
theorem sd_for {wi : TI} {tbody : TS} (Γs : Nat → List G) (h0 : Γs 0 = Γ) (hi : EI K wi Γ ds)
    (hb : ∀ k d, ds[k]? = some d → ∃ Δ vs, GD K g (Γs k) d vs Δ ∧ SD K tbody Δ (.nx (Γs (k + 1)))) : SD K (tFor wi g tbody) Γ (.nx (Γs ds.length)) := fun Hd0 H0 σ Hd H e D q =>
  hi _ _ σ Hd H e _ fun J Hd1 H1 x1 ok => by
    refine ⟨fun k m σ' H' => m = ds.length - k ∧ k ≤ ds.length ∧ ∃ Hd', Ex Hd1 Hd' ∧ En K Hd0 H0 (Γs k) σ' Hd' H', ⟨ds.length, rfl, Nat.zero_le _, Hd1, .refl _, by rw [h0]; exact e.ext x1⟩, ?_⟩
    rintro k m σ' H' ⟨rfl, hk, Hd', xd, en⟩
    obtain ⟨st, go⟩ := ok Hd' H' xd en.x.i
    by_cases hlt : k < ds.length
    · have hd : ds[k]? = some ds[k] := by simp [hlt]
      obtain ⟨gi, yl⟩ := go k _ hd
      refine .inr ⟨gi, fun σ'' H'' => ∃ Hd'', Ex Hd1 Hd'' ∧ En K Hd0 H0 (Γs (k + 1)) σ'' Hd'' H'', fun σ'' H'' w => ⟨ds.length - (k + 1), by omega, rfl, hlt, w⟩, fun x H2 y2 => ?_⟩
      obtain ⟨Hd2, x2, d2⟩ := yl x H2 y2
      obtain ⟨Δ, vs, hg, hs⟩ := hb k _ hd
      exact hg _ _ σ' Hd2 H2 x (en.ext x2) d2 _ fun σ2 e2 _ => hs _ _ σ2 Hd2 H2 e2 _ fun σ3 Hd3 H3 e3 x3 => ⟨Hd3, xd.trans (x2.d.trans x3), e3⟩
    · have ek : k = ds.length := by omega
      subst ek
      exact .inl ⟨st, q σ' Hd' H' en (x1.d.trans xd)⟩
/-- a loop that returns r at the first item of which stop is true -/
theorem sd_forS {wi : TI} {tbody : TS} {r : PyData} (stop : PyData → Bool) (Γs : Nat → List G) (h0 : Γs 0 = Γ) (hi : EI K wi Γ ds)
    (hb : ∀ k d, ds[k]? = some d → ∃ Δ vs, GD K g (Γs k) d vs Δ ∧ SD K tbody Δ (if stop d = true then .rt r else .nx (Γs (k + 1)))) :
    SD K (tFor wi g tbody) Γ (if ds.any stop = true then .rt r else .nx (Γs ds.length)) := fun Hd0 H0 σ Hd H e D q =>
  hi _ _ σ Hd H e _ fun J Hd1 H1 x1 ok => by
    refine ⟨fun k m σ' H' => m = ds.length - k ∧ k ≤ ds.length ∧ (ds.take k).any stop = false ∧ ∃ Hd', Ex Hd1 Hd' ∧ En K Hd0 H0 (Γs k) σ' Hd' H', ⟨ds.length, rfl, Nat.zero_le _, rfl, Hd1, .refl _, by rw [h0]; exact e.ext x1⟩, ?_⟩
    rintro k m σ' H' ⟨rfl, hk, ha, Hd', xd, en⟩
    obtain ⟨st, go⟩ := ok Hd' H' xd en.x.i
    by_cases hlt : k < ds.length
    · have hd : ds[k]? = some ds[k] := by simp [hlt]
      obtain ⟨gi, yl⟩ := go k _ hd
      refine .inr ⟨gi, fun σ'' H'' => (ds.take (k + 1)).any stop = false ∧ ∃ Hd'', Ex Hd1 Hd'' ∧ En K Hd0 H0 (Γs (k + 1)) σ'' Hd'' H'', fun σ'' H'' w => ⟨ds.length - (k + 1), by omega, rfl, hlt, w⟩, fun x H2 y2 => ?_⟩
      obtain ⟨Hd2, x2, d2⟩ := yl x H2 y2
      obtain ⟨Δ, vs, hg, hs⟩ := hb k _ hd
      refine hg _ _ σ' Hd2 H2 x (en.ext x2) d2 _ fun σ2 e2 _ => ?_
      by_cases z : stop ds[k] = true
      · rw [if_pos z] at hs
        have za : ds.any stop = true := List.any_eq_true.mpr ⟨_, List.getElem_mem hlt, z⟩
        rw [if_pos za] at q
        exact hs _ _ σ2 Hd2 H2 e2 _ q
      · rw [if_neg z] at hs
        refine hs _ _ σ2 Hd2 H2 e2 _ fun σ3 Hd3 H3 e3 x3 => ⟨?_, Hd3, xd.trans (x2.d.trans x3), e3⟩
        rw [List.take_add_one, hd, List.any_append, ha]
        simp [z]
    · have ek : k = ds.length := by omega
      subst ek
      rw [List.take_length] at ha
      rw [ha] at q
      exact .inl ⟨st, q σ' Hd' H' en (x1.d.trans xd)⟩
end

/-! ### the promise of a def that reads data alone -/
def spD (K : PySem.W.Frag) (n : Nat) (dom : List PyData → PyData → Prop) : Sp := fun vs H Q _ => vs.length = n ∧ ∃ Hd ds r, Ex Hd H ∧ DtA K Hd vs ds ∧ dom ds r ∧ ∀ v Hd' H', Ext Hd H Hd' H' → Dt K Hd' v r → Q v H'
def startG (N : List Str) (ds : List PyData) : List G := ds.map G.dat ++ List.replicate (N.length - ds.length) .any
section
variable {K : PySem.W.Frag} {Γ Δ Θ : List G} {ta : TA} {d r : PyData} {ds : List PyData} {t : TS} {n : Nat} {dom : List PyData → PyData → Prop}
theorem ed_call {E : XK} (h : EA K ta Γ ds) (hn : ds.length = n) (hd : dom ds r) : ED K (tCall (spD K n dom) [] E ta) Γ r := fun _ _ σ Hd H e Q q =>
  h _ _ σ Hd H e _ fun vs Hd1 H1 x1 d1 => by
    refine ⟨by rw [List.append_nil, d1.length, hn], Hd1, ds, r, x1.i, ?_, hd, fun v Hd' H' x2 dv => q v Hd' H' (x1.trans x2) dv⟩
    rw [List.append_nil]
    exact d1
theorem start_en {N : List Str} {vs : List V} {Hd H : Hp} (e : Ex Hd H) (h : DtA K Hd vs ds) : En K Hd H (startG N ds) (L2.start N vs) Hd H := by
  have hl := h.length
  refine ⟨.refl e, by simp [startG, L2.start, hl], fun i g hg => ?_, fun i j fs es w _ h1 _ _ => ?_⟩
  · unfold startG at hg
    by_cases hi : i < ds.length
    · rw [List.getElem?_append_left (by simpa using hi), List.getElem?_map, List.getElem?_eq_getElem hi] at hg
      cases hg
      obtain ⟨v, g1, g2⟩ := h.got (List.getElem?_eq_getElem hi)
      refine ⟨v, ?_, g2⟩
      unfold L2.start
      rw [List.getElem?_append_left (by simp; omega), List.getElem?_map, g1]
      rfl
    · rw [List.getElem?_append_right (by simpa using hi), List.getElem?_replicate] at hg
      split at hg
      · cases hg; trivial
      · cases hg
  · exfalso
    unfold startG at h1
    by_cases hi : i < ds.length
    · rw [List.getElem?_append_left (by simpa using hi), List.getElem?_map, List.getElem?_eq_getElem hi] at h1
      cases h1
    · rw [List.getElem?_append_right (by simpa using hi), List.getElem?_replicate] at h1
      split at h1
      · cases h1
      · cases h1
theorem run_d {N : List Str} {vs : List V} {Hd H : Hp} {Q : VK} (e : Ex Hd H) (h : DtA K Hd vs ds) (hs : SD K t (startG N ds) (.rt r)) (q : ∀ v Hd' H', Ext Hd H Hd' H' → Dt K Hd' v r → Q v H') :
    t { nx := fun _ H' => Q .non H', rt := Q } (L2.start N vs) H := hs _ _ _ _ _ (start_en e h) _ q
end
end DL

namespace DL
open PySem PySem.Spec PyProof.Rows L2
open Evl (Ex)
open RZ

section
variable {K : PySem.W.Frag} {Γ Δ Θ : List G} {ta tb tc te tl : TE} {tt tu : TT} {d e x y z : PyData} {ds es xs ys : List PyData} {b c : Bool}
/-! ### tuple(x), list(x), len(x), all(x) -/
def rTupOf (K : PySem.W.Frag) : List V → Hp → VK → Prop := fun xs H Q => ∃ p ys, xs = [.ref p] ∧ ((SqL K H p ys ∧ ∀ l, H l = none → Q (.ref l) (upd H l (.tup ys))) ∨ (SqT K H p ys ∧ Q (.ref p) H))
theorem ed_tupR (h : ER K te Γ ds) : ED K (tCB (rTupOf K) (tCons te tNil)) Γ (.tuple ds) := fun _ _ σ Hd H e Q q => h _ _ σ Hd H e _ fun a vs Hd1 H1 x1 h1 d1 =>
  ⟨a, vs, rfl, .inl ⟨SqL.of h1, fun l hl => q _ (upd Hd1 l (.tup vs)) _ (x1.new hl) (.tup upd_same (d1.mono (Ex.new (Evl.fresh_back x1.i hl))))⟩⟩
theorem ed_tupT (h : ED K te Γ (.tuple ds)) : ED K (tCB (rTupOf K) (tCons te tNil)) Γ (.tuple ds) := fun _ _ σ Hd H e Q q => h _ _ σ Hd H e _ fun v Hd1 H1 x1 d1 => by
  cases d1 with
  | tup h1 h2 => exact ⟨_, _, rfl, .inr ⟨SqT.of (x1.i _ _ h1), q _ Hd1 H1 x1 (.tup h1 h2)⟩⟩
def rListOf (K : PySem.W.Frag) : List V → Hp → VK → Prop := fun xs H Q => ∃ p ys, xs = [.ref p] ∧ (SqL K H p ys ∨ SqT K H p ys) ∧ ∀ l, H l = none → Q (.ref l) (upd H l (.lst ys))
theorem ef_listR (h : ER K te Γ ds) : EF K (tCB (rListOf K) (tCons te tNil)) Γ ds := fun _ _ σ Hd H e Q q => h _ _ σ Hd H e _ fun a vs Hd1 H1 x1 h1 d1 =>
  ⟨a, vs, rfl, .inl (SqL.of h1), fun l hl => q l vs Hd1 _ (x1.mut (Evl.fresh_back x1.h hl) (Evl.fresh_back x1.i hl)) (Evl.fresh_back x1.h hl) (Evl.fresh_back x1.i hl) upd_same d1⟩
theorem ef_listT (h : ED K te Γ (.tuple ds)) : EF K (tCB (rListOf K) (tCons te tNil)) Γ ds := fun _ _ σ Hd H e Q q => h _ _ σ Hd H e _ fun v Hd1 H1 x1 d1 => by
  cases d1 with
  | tup h1 h2 => exact ⟨_, _, rfl, .inr (SqT.of (x1.i _ _ h1)), fun l hl => q l _ Hd1 _ (x1.mut (Evl.fresh_back x1.h hl) (Evl.fresh_back x1.i hl)) (Evl.fresh_back x1.h hl) (Evl.fresh_back x1.i hl) upd_same h2⟩
def rLenOf (K : PySem.W.Frag) : List V → Hp → VK → Prop := fun xs H Q => ∃ p ys, xs = [.ref p] ∧ (SqL K H p ys ∨ SqT K H p ys) ∧ Q (.int ys.length) H
theorem ed_lenR (h : ER K te Γ ds) : ED K (tCB (rLenOf K) (tCons te tNil)) Γ (.int ds.length) := fun _ _ σ Hd H e Q q => h _ _ σ Hd H e _ fun a vs Hd1 H1 x1 h1 d1 =>
  ⟨a, vs, rfl, .inl (SqL.of h1), by rw [d1.length]; exact q _ Hd1 H1 x1 (.int _)⟩
theorem ed_lenT (h : ED K te Γ (.tuple ds)) : ED K (tCB (rLenOf K) (tCons te tNil)) Γ (.int ds.length) := fun _ _ σ Hd H e Q q => h _ _ σ Hd H e _ fun v Hd1 H1 x1 d1 => by
  cases d1 with
  | tup h1 h2 => exact ⟨_, _, rfl, .inr (SqT.of (x1.i _ _ h1)), by rw [h2.length]; exact q _ Hd1 H1 x1 (.int _)⟩
theorem ed_all {bs : List Bool} (h : ER K te Γ (bs.map PyData.bool)) : ED K (tCB (rAll K) (tCons te tNil)) Γ (.bool (bs.all id)) := fun _ _ σ Hd H e Q q => h _ _ σ Hd H e _ fun a vs Hd1 H1 x1 h1 d1 =>
  ⟨a, bs, rfl, SqL.of (by rw [h1, d1.ofBls]), q _ Hd1 H1 x1 (.bl _)⟩

/-! ### kinds -/
def tyD : PyData → String
  | .none => "NoneType"
  | .bool _ => "bool"
  | .int _ => "int"
  | .str _ => "str"
  | .list _ => "list"
  | .tuple _ => "tuple"
  | .dict _ => "dict"
theorem Dt.ty {H : Hp} {v : V} (h : Dt K H v d) : TyX K H v (.type (tyD d)) := by
  cases h with
  | non => exact .base .non
  | bl b => exact .base (.bl b)
  | int b => exact .base (.int b)
  | str b => exact .base (.str b)
  | lst h1 _ => exact .base (.lst h1)
  | tup h1 _ => exact .base (.tup h1)
  | dct h1 _ => exact .base (.dK h1)
theorem TyX.up {H H' : Hp} {v : V} (e : Ex H H') (h : Dt K H v d) : TyX K H' v (.type (tyD d)) := (h.mono e).ty
theorem ed_isi {T : String} (h : ED K te Γ d) (hk : kitB (tyD d) T = some b) : ED K (tCB (rIsi K) (tCons te (tCons (tC (.ty T)) tNil))) Γ (.bool b) := fun _ _ σ Hd H e Q q => h _ _ σ Hd H e _ fun v Hd1 H1 x1 d1 =>
  ⟨v, .ty T, _, _, b, rfl, .ty T, TyX.up x1.i d1, kit_ty hk, q _ Hd1 H1 x1 (.bl b)⟩
theorem ed_isi2 {T U : String} {b1 b2 : Bool} (h : ED K te Γ d) (h1 : kitB (tyD d) T = some b1) (h2 : kitB (tyD d) U = some b2) :
    ED K (tCB (rIsiT K) (tCons te (tCons (tTup (tCons (tC (.ty T)) (tCons (tC (.ty U)) tNil))) tNil))) Γ (.bool (b1 || b2)) := fun _ _ σ Hd H e Q q => h _ _ σ Hd H e _ fun v Hd1 H1 x1 d1 =>
  ⟨(by show 2 ≤ sizeLine; decide), fun p hp => ⟨v, p, _, _, _, b1 || b2, rfl, upd_same, .cons (.ty T) (.cons (.ty U) .nil), TyX.up (x1.i.trans (Ex.new hp)) d1,
    kitAny_cons (kit_ty h1) (fun z => kitAny_cons (kit_ty h2) (fun w => by rw [z, w]; rfl) (fun w => by rw [w, Bool.or_true])) (fun z => by rw [z]; rfl),
    q _ Hd1 _ (x1.mut (Evl.fresh_back x1.h hp) (Evl.fresh_back x1.i hp)) (.bl _)⟩⟩
theorem kitB_eq {T : String} {b : Bool} (h : kitB (tyD d) T = some b) : kitB (tyD d) T = some b := h

/-! ### slices -/
theorem cut_dt {H : Hp} {vs : List V} {lo hi : Option Int} (h : DtA K H vs ds) : DtA K H (cutV vs lo hi) ((ds.drop (HT.sIx ds.length 0 lo)).take (HT.sIx ds.length ds.length hi - HT.sIx ds.length 0 lo)) := by
  unfold cutV
  rw [h.length]
  exact (h.drop _).take _
def cutD (ds : List PyData) (lo hi : Option Int) : List PyData := (ds.drop (HT.sIx ds.length 0 lo)).take (HT.sIx ds.length ds.length hi - HT.sIx ds.length 0 lo)
theorem eo_no : EO K tNoPart Γ none := fun _ _ σ Hd H e Q q => q Hd H (.refl e.x.i)
theorem eo_int {i : Int} (h : ED K te Γ (.int i)) : EO K (tPart te) Γ (some i) := fun _ _ σ Hd H e Q q => h _ _ σ Hd H e _ fun v Hd1 H1 x1 d1 => by
  cases d1
  exact ⟨i, rfl, q Hd1 H1 x1⟩
theorem ef_sl {tlo thi : TO} {lo hi : Option Int} (h : ED K te Γ (.list ds)) (h1 : EO K tlo Γ lo) (h2 : EO K thi Γ hi) : EF K (tSl (rSlL K) te tlo thi) Γ (cutD ds lo hi) := fun _ _ σ Hd H e Q q =>
  h _ _ σ Hd H e _ fun v Hd1 H1 x1 d1 => h1 _ _ σ Hd1 H1 (e.ext x1) _ fun Hd2 H2 x2 => h2 _ _ σ Hd2 H2 ((e.ext x1).ext x2) _ fun Hd3 H3 x3 => by
    cases d1 with
    | lst g1 g2 =>
      have x13 := x1.trans (x2.trans x3)
      exact ⟨_, _, rfl, SqL.of ((x2.trans x3).h _ _ (x1.i _ _ g1)), fun p hp => q p _ Hd3 _ (x13.mut (Evl.fresh_back x13.h hp) (Evl.fresh_back x13.i hp)) (Evl.fresh_back x13.h hp) (Evl.fresh_back x13.i hp) upd_same
        (cut_dt (g2.mono (x2.d.trans x3.d)))⟩
theorem cutD_all {lo hi : Option Int} (h : HT.sIx ds.length 0 lo = 0 ∧ HT.sIx ds.length ds.length hi = ds.length) : cutD ds lo hi = ds := by
  unfold cutD
  rw [h.1, h.2]
  simp
theorem ed_slT {tlo thi : TO} {lo hi : Option Int} (h : ED K te Γ (.tuple ds)) (h1 : EO K tlo Γ lo) (h2 : EO K thi Γ hi) : ED K (tSl (rSlA K) te tlo thi) Γ (.tuple (cutD ds lo hi)) := fun _ _ σ Hd H e Q q =>
  h _ _ σ Hd H e _ fun v Hd1 H1 x1 d1 => h1 _ _ σ Hd1 H1 (e.ext x1) _ fun Hd2 H2 x2 => h2 _ _ σ Hd2 H2 ((e.ext x1).ext x2) _ fun Hd3 H3 x3 => by
    cases d1 with
    | tup g1 g2 =>
      have x13 := x1.trans (x2.trans x3)
      have xd := x2.d.trans x3.d
      refine ⟨_, _, rfl, SqT.of ((x2.trans x3).h _ _ (x1.i _ _ g1)), fun w => ?_, fun _ p hp => q _ (upd Hd3 p _) _ (x13.new hp) (.tup upd_same ((cut_dt (g2.mono xd)).mono (Ex.new (Evl.fresh_back x13.i hp))))⟩
      rw [g2.length] at w
      rw [cutD_all w] at q
      exact q _ Hd3 H3 x13 (.tup (xd _ _ g1) (g2.mono xd))

/-! ### in, not in a list or tuple of texts -/
theorem inV_strs {s : Str} : ∀ (xs : List Str), inV (.str s) (xs.map V.str) = decide (s ∈ xs)
  | [] => rfl
  | x :: xs => by
    show (eqV (.str x) (.str s) || inV (.str s) (xs.map V.str)) = _
    rw [inV_strs xs]
    show ((x == s) || decide (s ∈ xs)) = _
    by_cases z : x = s
    · subst z; simp
    · have z' : ¬ s = x := fun q => z q.symm
      simp [z, z']
theorem flat_strs : ∀ (xs : List Str), (xs.map V.str).all flatV = true
  | [] => rfl
  | x :: xs => by show (true && _) = true; rw [flat_strs xs]; rfl
theorem rd_inL {s : Str} {xs : List Str} : RD K (rIn K false) (.str s) (.list (xs.map PyData.str)) (.bool (decide (s ∈ xs))) := fun Hd H v w e d1 d2 Q q => by
  cases d1
  cases d2 with
  | lst h1 h2 =>
    rw [h2.ofStrs] at h1
    exact ⟨_, _, rfl, .inl (SqL.of (e _ _ h1)), rfl, flat_strs xs, by rw [inV_strs]; exact q _ Hd H (.refl e) (.bl _)⟩
theorem rd_inT {s : Str} {xs : List Str} : RD K (rIn K false) (.str s) (.tuple (xs.map PyData.str)) (.bool (decide (s ∈ xs))) := fun Hd H v w e d1 d2 Q q => by
  cases d1
  cases d2 with
  | tup h1 h2 =>
    rw [h2.ofStrs] at h1
    exact ⟨_, _, rfl, .inr (SqT.of (e _ _ h1)), rfl, flat_strs xs, by rw [inV_strs]; exact q _ Hd H (.refl e) (.bl _)⟩
theorem rd_niL {s : Str} {xs : List Str} : RD K (rIn K true) (.str s) (.list (xs.map PyData.str)) (.bool (!decide (s ∈ xs))) := fun Hd H v w e d1 d2 Q q => by
  cases d1
  cases d2 with
  | lst h1 h2 =>
    rw [h2.ofStrs] at h1
    exact ⟨_, _, rfl, .inl (SqL.of (e _ _ h1)), rfl, flat_strs xs, by rw [inV_strs]; exact q _ Hd H (.refl e) (.bl _)⟩
theorem rd_niT {s : Str} {xs : List Str} : RD K (rIn K true) (.str s) (.tuple (xs.map PyData.str)) (.bool (!decide (s ∈ xs))) := fun Hd H v w e d1 d2 Q q => by
  cases d1
  cases d2 with
  | tup h1 h2 =>
    rw [h2.ofStrs] at h1
    exact ⟨_, _, rfl, .inr (SqT.of (e _ _ h1)), rfl, flat_strs xs, by rw [inV_strs]; exact q _ Hd H (.refl e) (.bl _)⟩
/-- texts joined by + -/
def glueR : R2 := fun x y H Q => ∃ i j, x = .str i ∧ y = .str j ∧ i.length + j.length ≤ sizeLine ∧ Q (.str (i ++ j)) H
theorem rd_catS {s t : Str} (h : s.length + t.length ≤ 100000) : RD K glueR (.str s) (.str t) (.str (s ++ t)) := fun Hd H v w e d1 d2 Q q => by
  cases d1
  cases d2
  exact ⟨s, t, rfl, rfl, fits_of h, q _ Hd H (.refl e) (.str _)⟩
def rIsNon : R2 := fun x y H Q => y = .non ∧ Q (.bl (decide (x = .non))) H
theorem rd_isN : RD K rIsNon d .none (.bool (match d with | .none => true | _ => false)) := fun Hd H v w e d1 d2 Q q => by
  cases d2
  refine ⟨rfl, ?_⟩
  cases d1 with
  | non => exact q _ Hd H (.refl e) (.bl _)
  | bl b => exact q _ Hd H (.refl e) (.bl _)
  | int b => exact q _ Hd H (.refl e) (.bl _)
  | str b => exact q _ Hd H (.refl e) (.bl _)
  | lst h1 _ => exact q _ Hd H (.refl e) (.bl _)
  | tup h1 _ => exact q _ Hd H (.refl e) (.bl _)
  | dct h1 _ => exact q _ Hd H (.refl e) (.bl _)
end
end DL

namespace DL
open PySem PySem.Spec PyProof.Rows L2
open Evl (Ex)
open RZ

/-- a def of the text under its global name -/
structure Tx (K : PySem.W.Frag) (mg : Str → Option Value) (x : Str) (ps : List Str) (st : Stmt) : Prop where
  ex : ∃ f fd, Fun K x x st f fd ∧ mg x = some (.ref f) ∧ Binds K fd ps []
/-- a def that keeps its promise, up to a depth of calls -/
structure Df (P : Program) (w : World) (K : PySem.W.Frag) (mg : Str → Option Value) (base : Heap) (k : Nat) (x : Str) (ps : List Str) (sp : Sp) : Prop where
  ex : ∃ f fd, FnOk P w K mg base CX0 k f fd ps sp ∧ mg x = some (.ref f) ∧ PySem.W.keepIn K (.ref f) = true ∧ Binds K fd ps []
theorem Df.mono {P : Program} {w : World} {K : PySem.W.Frag} {mg : Str → Option Value} {base : Heap} {j k : Nat} {x : Str} {ps : List Str} {sp : Sp} (D : Df P w K mg base j x ps sp) (h : j ≤ k) : Df P w K mg base k x ps sp := by
  obtain ⟨f, fd, F, m, k1, b⟩ := D.ex
  exact ⟨f, fd, F.mono h, m, k1, b⟩
theorem Df.imp {P : Program} {w : World} {K : PySem.W.Frag} {mg : Str → Option Value} {base : Heap} {k : Nat} {x : Str} {ps : List Str} {sp sp' : Sp} (D : Df P w K mg base k x ps sp) (h : ∀ vs H Q E, sp' vs H Q E → sp vs H Q E) : Df P w K mg base k x ps sp' := by
  obtain ⟨f, fd, F, m, k1, b⟩ := D.ex
  exact ⟨f, fd, F.imp h, m, k1, b⟩
section
variable {P : Program} {w : World} {K : PySem.W.Frag} {mg : Str → Option Value} {base : Heap}
theorem Tx.ok {x : Str} {ps N : List Str} {st : Stmt} {k : Nat} {sp : Sp} (T : Tx K mg x ps st) (S : FnScope N ps (defScope st)) (len : ∀ vs H Q E, sp vs H Q E → vs.length = ps.length)
    (hbody : ∀ (f : Addr) (cdv : Value) (A : Around) (outer : List Env) (s : Shared) (H : Hp) (vs : List V) (Q : VK) (E : XK), Room k (A.deeper (envOfC x (defScope st) s.heap.objs.size f cdv)) → sp vs H Q E →
      ∃ t, PSs (cxOf CX0 P w K mg base N x (defScope st) f cdv A outer s H E).nox (defBody st) t ∧ t { nx := fun _ H' => Q .non H', rt := Q } (L2.start N vs) H) : Df P w K mg base (k + 1) x ps sp := by
  obtain ⟨f, fd, F, m, b⟩ := T.ex
  exact ⟨f, fd, F.ok S len (hbody f), m, F.kp, b⟩
theorem tx_mk {x : Str} {ps : List Str} {st : Stmt} {h : Heap} {f : Addr} {oc : Value} {od an : Option Addr} {osl : Array (Option Value)} {kV doc pm cdv ct : Value} (X : K.In h) (G : h.Ns mainGlobals mg) (a : PySem.W.nsIn K mainGlobals x = some (some (.ref f)))
    (l : K.lookup f = some ⟨oc, od, .func (PySem.W.fnOf x x (defArgs st) (defBody st) (defScope st) .none kV doc pm an cdv ct), osl⟩)
    (c : PySem.W.codeIn K cdv x = true) (k : PySem.W.keepIn K (.ref f) = true)
    (hb : ∀ (kV doc pm : Value) (an : Option Addr) (cdv ct : Value) (us : List Value), us.length = ps.length → bindArgs (PySem.W.fnOf x x (defArgs st) (defBody st) (defScope st) .none kV doc pm an cdv ct) ⟨us, []⟩ = pure (ps.zip us)) : Tx K mg x ps st := by
  have F := fun_mk (st := st) l c k
  exact ⟨f, _, F, PySem.W.mg_of X G a, F.binds hb⟩
variable {X : Cx} {x : Str} {ps : List Str} {sp : Sp} {p pos : Pos} {e : Expr} {es : List Expr} {t : TA} {j k : Nat}
theorem pe_def (D : Df X.prog X.w X.K X.mg X.base j x ps sp) (hr : Room k X.A) (hj : j ≤ k) (ha : PA X (e :: es) t) (hg : Gl X x := by rfl) (hdb : (x == ("__debug__" : Str)) = false := by decide)
    (he : starEach (e :: es) X.env = (false, eval e X.env) :: starEach es X.env := by rfl) (hpl : (backTo pos (starEach es X.env)).any (·.1) = false := by rfl) : PE X (.Call (.Name x p) (e :: es) [] pos) (tCall sp [] E0 t) := by
  obtain ⟨f, fd, F, m, k1, b⟩ := D.ex
  exact pe_call (F.mono hj) hr hg m k1 b .nil pass0 ha hdb he hpl
theorem pe_def0 (D : Df X.prog X.w X.K X.mg X.base j x ps sp) (hr : Room k X.A) (hj : j ≤ k) (hg : Gl X x := by rfl) (hdb : (x == ("__debug__" : Str)) = false := by decide) : PE X (.Call (.Name x p) [] [] pos) (tCall sp [] E0 tNil) := by
  obtain ⟨f, fd, F, m, k1, b⟩ := D.ex
  exact pe_call0 (F.mono hj) hr hg m k1 b .nil pass0 hdb
end

/-! ### the source of draws -/
def BoxO (c : Nat) (o : HO) : Prop := ∃ g m k : Int, o = .lst [.int g, .int m, .int k] ∧ 0 ≤ g ∧ 0 ≤ m ∧ m < 2 ^ 62 ∧ 0 ≤ k ∧ k ≤ c
theorem BoxO.mono {c c' : Nat} {o : HO} (h : BoxO c o) (hc : c ≤ c') : BoxO c' o := by
  obtain ⟨g, m, k, e, h1, h2, h3, h4, h5⟩ := h
  exact ⟨g, m, k, e, h1, h2, h3, h4, by omega⟩
def spTake : Sp := fun vs H Q _ => ∃ (p : Addr) (top : Int) (c : Nat) (o : HO), vs = [.ref p, .int top] ∧ 1 ≤ top ∧ top < 1073741824 ∧ H p = some o ∧ BoxO c o ∧ c < 2 ^ 60 ∧
  ∀ (r : Int) (o' : HO), 0 ≤ r → r < top → BoxO (c + 1) o' → Q (.int r) (upd H p o')
/-- one of a list's items -/
def spOf : Sp := fun vs H Q _ => ∃ (p a : Addr) (ws : List V) (c : Nat) (o : HO), vs = [.ref p, .ref a] ∧ H a = some (.lst ws) ∧ a ≠ p ∧ 0 < ws.length ∧ ws.length < 1073741824 ∧ H p = some o ∧ BoxO c o ∧ c < 2 ^ 60 ∧
  ∀ (v : V) (o' : HO), v ∈ ws → BoxO (c + 1) o' → Q v (upd H p o')
section
variable {K : PySem.W.Frag} {σ : L2.St} {H : Hp} {Q : VK}
/-- an item of a list in a slot, at a written place -/
theorem ix_own {i : Nat} {n : Int} {p : Addr} {xs : List V} {v : V} (hs : σ[i]? = some (some (.ref p))) (hp : H p = some (.lst xs)) (ha : atI xs n = some v) (q : Q v H) : tOp (rIx K) (tVar i) (tC (.int n)) σ H Q :=
  ⟨_, hs, .inl ⟨p, xs, n, v, rfl, rfl, SqL.of hp, ha, q⟩⟩
theorem cut_to (xs : List V) (m : Nat) : cutV xs none (some (m : Int)) = xs.take m := by
  unfold cutV
  rw [HT.sIx_none, HT.sIx_nat, List.drop_zero, Nat.sub_zero]
  by_cases h : m ≤ xs.length
  · rw [Nat.min_eq_left h]
  · rw [Nat.min_eq_right (by omega), List.take_length, List.take_of_length_le (by omega)]
theorem cut_from (xs : List V) (m n : Nat) (h : xs.length ≤ n) : cutV xs (some (m : Int)) (some (n : Int)) = xs.drop m := by
  unfold cutV
  rw [HT.sIx_nat, HT.sIx_nat, Nat.min_eq_right h]
  by_cases h2 : m ≤ xs.length
  · rw [Nat.min_eq_left h2, List.take_of_length_le (by rw [List.length_drop]; omega)]
  · rw [Nat.min_eq_right (by omega), List.drop_length, List.drop_of_length_le (by omega), List.take_nil]
/-- list(xs[:m]) or [0] -/
theorem cells_first {D : Ends} {a : Addr} {ns : List Int} {m : Nat} (h0 : σ[0]? = some (some (.ref a))) (h1 : σ[1]? = some (some (.int (m : Int)))) (ha : SqL K H a (ns.map V.int)) (hm : 1 ≤ m)
    (k : ∀ (p : Addr) (ms : List Int) (H2 : Hp), H p = none → Ex H H2 → H2 p = some (.lst (ms.map V.int)) → 1 ≤ ms.length → ms.length ≤ m → (m < ns.length → ms.length = m) → D.nx (σ.set 2 (some (.ref p))) H2) :
    tAsg (tOrT K (tCB (rListOf K) (tCons (tSl (rSlL K) (tVar 0) tNoPart (tPart (tVar 1))) tNil)) (tLst (tCons (tC (.int 0)) tNil))) (gName 2) D σ H := by
  refine ⟨_, h0, _, h1, m, rfl, a, _, rfl, ha, fun s hs => ⟨s, _, rfl, .inl (SqL.of upd_same), fun l hl => ?_⟩⟩
  rw [cut_to] at hl ⊢
  have e1 : Ex H (upd H s (.lst ((ns.map V.int).take m))) := Ex.new hs
  have e2 := e1.trans (Ex.new (o := .lst ((ns.map V.int).take m)) hl)
  refine ⟨_, .inl ⟨_, SqL.of upd_same, rfl⟩, ?_⟩
  cases hns : ns with
  | nil =>
    subst hns
    rw [show (!(List.take m (([] : List Int).map V.int)).isEmpty) = false by cases m <;> rfl]
    refine iteF ⟨by show 1 ≤ sizeLine; decide, fun p hp => ?_⟩
    exact k p [0] _ (Evl.fresh_back e2 hp) (e2.trans (Ex.new hp)) upd_same (Nat.le_refl _) hm (fun z => by simp at z)
  | cons n r =>
    rw [← hns]
    have hne : (!(List.take m (ns.map V.int)).isEmpty) = true := by
      obtain ⟨m', rfl⟩ : ∃ m', m = m' + 1 := ⟨m - 1, by omega⟩
      rw [hns]
      rfl
    rw [hne]
    refine iteT (k l (ns.take m) _ (Evl.fresh_back e1 hl) e2 (by rw [upd_same, List.map_take]) ?_ ?_ ?_)
    · rw [List.length_take, hns, List.length_cons]; omega
    · rw [List.length_take]; omega
    · intro z; rw [List.length_take]; omega
end
end DL

namespace DL
open PySem PySem.Spec PyProof.Rows L2
open Evl (Ex)
open RZ
def is_list : PyData → Bool
  | .list _ => true
  | _ => false
theorem kb_list : ∀ d : PyData, kitB (tyD d) "list" = some (is_list d)
  | .none => (by decide +kernel : kitB "NoneType" "list" = some false)
  | .bool _ => (by decide +kernel : kitB "bool" "list" = some false)
  | .int _ => (by decide +kernel : kitB "int" "list" = some false)
  | .str _ => (by decide +kernel : kitB "str" "list" = some false)
  | .list _ => (by decide +kernel : kitB "list" "list" = some true)
  | .tuple _ => (by decide +kernel : kitB "tuple" "list" = some false)
  | .dict _ => (by decide +kernel : kitB "dict" "list" = some false)
def is_tuple : PyData → Bool
  | .tuple _ => true
  | _ => false
theorem kb_tuple : ∀ d : PyData, kitB (tyD d) "tuple" = some (is_tuple d)
  | .none => (by decide +kernel : kitB "NoneType" "tuple" = some false)
  | .bool _ => (by decide +kernel : kitB "bool" "tuple" = some false)
  | .int _ => (by decide +kernel : kitB "int" "tuple" = some false)
  | .str _ => (by decide +kernel : kitB "str" "tuple" = some false)
  | .list _ => (by decide +kernel : kitB "list" "tuple" = some false)
  | .tuple _ => (by decide +kernel : kitB "tuple" "tuple" = some true)
  | .dict _ => (by decide +kernel : kitB "dict" "tuple" = some false)
def is_dict : PyData → Bool
  | .dict _ => true
  | _ => false
theorem kb_dict : ∀ d : PyData, kitB (tyD d) "dict" = some (is_dict d)
  | .none => (by decide +kernel : kitB "NoneType" "dict" = some false)
  | .bool _ => (by decide +kernel : kitB "bool" "dict" = some false)
  | .int _ => (by decide +kernel : kitB "int" "dict" = some false)
  | .str _ => (by decide +kernel : kitB "str" "dict" = some false)
  | .list _ => (by decide +kernel : kitB "list" "dict" = some false)
  | .tuple _ => (by decide +kernel : kitB "tuple" "dict" = some false)
  | .dict _ => (by decide +kernel : kitB "dict" "dict" = some true)
def is_bool : PyData → Bool
  | .bool _ => true
  | _ => false
theorem kb_bool : ∀ d : PyData, kitB (tyD d) "bool" = some (is_bool d)
  | .none => (by decide +kernel : kitB "NoneType" "bool" = some false)
  | .bool _ => (by decide +kernel : kitB "bool" "bool" = some true)
  | .int _ => (by decide +kernel : kitB "int" "bool" = some false)
  | .str _ => (by decide +kernel : kitB "str" "bool" = some false)
  | .list _ => (by decide +kernel : kitB "list" "bool" = some false)
  | .tuple _ => (by decide +kernel : kitB "tuple" "bool" = some false)
  | .dict _ => (by decide +kernel : kitB "dict" "bool" = some false)
def is_str : PyData → Bool
  | .str _ => true
  | _ => false
theorem kb_str : ∀ d : PyData, kitB (tyD d) "str" = some (is_str d)
  | .none => (by decide +kernel : kitB "NoneType" "str" = some false)
  | .bool _ => (by decide +kernel : kitB "bool" "str" = some false)
  | .int _ => (by decide +kernel : kitB "int" "str" = some false)
  | .str _ => (by decide +kernel : kitB "str" "str" = some true)
  | .list _ => (by decide +kernel : kitB "list" "str" = some false)
  | .tuple _ => (by decide +kernel : kitB "tuple" "str" = some false)
  | .dict _ => (by decide +kernel : kitB "dict" "str" = some false)
def is_int : PyData → Bool
  | .bool _ => true
  | .int _ => true
  | _ => false
theorem kb_int : ∀ d : PyData, kitB (tyD d) "int" = some (is_int d)
  | .none => (by decide +kernel : kitB "NoneType" "int" = some false)
  | .bool _ => (by decide +kernel : kitB "bool" "int" = some true)
  | .int _ => (by decide +kernel : kitB "int" "int" = some true)
  | .str _ => (by decide +kernel : kitB "str" "int" = some false)
  | .list _ => (by decide +kernel : kitB "list" "int" = some false)
  | .tuple _ => (by decide +kernel : kitB "tuple" "int" = some false)
  | .dict _ => (by decide +kernel : kitB "dict" "int" = some false)
def is_non : PyData → Bool
  | .none => true
  | _ => false
section
variable {K : PySem.W.Frag} {Γ : List G} {te : TE} {d : PyData}
theorem rd_isNon : RD K rIsNon d .none (.bool (is_non d)) := by
  have h := rd_isN (K := K) (d := d)
  cases d <;> exact h
end

/-! ### the law's own look at two things: equal, and of the same kinds at every depth -/
mutual
def sameD : PyData → PyData → Bool
  | .list xs, .list ys => sameA xs ys
  | .tuple xs, .tuple ys => sameA xs ys
  | .none, .none => true
  | .bool a, .bool b => a == b
  | .int a, .int b => a == b
  | .str a, .str b => a == b
  | _, _ => false
def sameA : List PyData → List PyData → Bool
  | [], [] => true
  | x :: xs, y :: ys => sameD x y && sameA xs ys
  | _, _ => false
end
theorem sameA_zip : ∀ (xs ys : List PyData), sameA xs ys = (decide (xs.length = ys.length) && ((xs.zip ys).map fun p => sameD p.1 p.2).all id)
  | [], [] => rfl
  | x :: xs, y :: ys => by
    show (sameD x y && sameA xs ys) = _
    rw [sameA_zip xs ys]
    show _ = (decide (xs.length + 1 = ys.length + 1) && (sameD x y && ((xs.zip ys).map fun p => sameD p.1 p.2).all id))
    by_cases h : xs.length = ys.length
    · have h' : xs.length + 1 = ys.length + 1 := by omega
      rw [decide_eq_true h, decide_eq_true h']
      simp
    · have h' : ¬ xs.length + 1 = ys.length + 1 := by omega
      rw [decide_eq_false h, decide_eq_false h']
      simp
  | [], y :: ys => by
    show false = (decide (0 = ys.length + 1) && _)
    rw [decide_eq_false (by omega)]
    rfl
  | x :: xs, [] => by
    show false = (decide (xs.length + 1 = 0) && _)
    rw [decide_eq_false (by omega)]
    rfl
theorem shaped_mem : ∀ {xs : List PyData}, PyData.canLayAll0 xs = true → PyData.depthAll xs ≤ 64 → ∀ x ∈ xs, PyData.canLay0 x = true ∧ PyData.depth x ≤ PyData.depthAll xs
  | [], _, _, x, h => by cases h
  | y :: ys, h, hd, x, hx => by
    simp only [PyData.canLayAll0, Bool.and_eq_true] at h
    have e : PyData.depthAll (y :: ys) = max y.depth (PyData.depthAll ys) := by simp [PyData.depthAll]
    rcases List.mem_cons.mp hx with q | q
    · subst q
      exact ⟨h.1, by rw [e]; omega⟩
    · obtain ⟨a, b⟩ := shaped_mem h.2 (by rw [e] at hd; omega) x q
      exact ⟨a, by rw [e]; omega⟩
theorem shaped_list {xs : List PyData} (h : SeqAt.shaped (.list xs) = true) : ∀ x ∈ xs, SeqAt.shaped x = true ∧ x.depth < (PyData.list xs).depth := fun x hx => by
  have h1 := SeqAt.canLay_of_shaped h
  have h2 := SeqAt.depth_of_shaped h
  simp only [PyData.canLay0] at h1
  have e : (PyData.list xs).depth = PyData.depthAll xs + 1 := by simp [PyData.depth]
  rw [e] at h2
  obtain ⟨a, b⟩ := shaped_mem h1 (by omega) x hx
  exact ⟨by unfold SeqAt.shaped; rw [a, decide_eq_true (by omega)]; rfl, by rw [e]; omega⟩
theorem shaped_tup {xs : List PyData} (h : SeqAt.shaped (.tuple xs) = true) : ∀ x ∈ xs, SeqAt.shaped x = true ∧ x.depth < (PyData.tuple xs).depth := fun x hx => by
  have h1 := SeqAt.canLay_of_shaped h
  have h2 := SeqAt.depth_of_shaped h
  simp only [PyData.canLay0] at h1
  have e : (PyData.tuple xs).depth = PyData.depthAll xs + 1 := by simp [PyData.depth]
  rw [e] at h2
  obtain ⟨a, b⟩ := shaped_mem h1 (by omega) x hx
  exact ⟨by unfold SeqAt.shaped; rw [a, decide_eq_true (by omega)]; rfl, by rw [e]; omega⟩
/-- a promise that nobody can ask -/
theorem Tx.none {P : Program} {w : World} {K : PySem.W.Frag} {mg : Str → Option Value} {base : Heap} {x : Str} {ps : List Str} {st : Stmt} {n : Nat} (X : Tx K mg x ps st) : Df P w K mg base 0 x ps (spD K n fun _ _ => False) := by
  obtain ⟨f, fd, F, m, b⟩ := X.ex
  refine ⟨f, fd, ⟨fun vs H Q E h => ?_, fun A outer s H args us vs Q E hr he hb hv h => ?_⟩, m, F.kp, b⟩
  · obtain ⟨_, _, _, _, _, _, z, _⟩ := h
    exact z.elim
  · obtain ⟨_, _, _, _, _, _, z, _⟩ := h
    exact z.elim

mutual
/-- no long row within -/
def shortD : PyData → Bool
  | .list xs => decide (xs.length ≤ 100000) && shortA xs
  | .tuple xs => decide (xs.length ≤ 100000) && shortA xs
  | .dict _ => false
  | .none => true
  | .bool _ => true
  | .int _ => true
  | .str _ => true
def shortA : List PyData → Bool
  | [] => true
  | x :: xs => shortD x && shortA xs
end
theorem shortA_mem : ∀ {xs : List PyData}, shortA xs = true → ∀ x ∈ xs, shortD x = true
  | [], _, x, h => by cases h
  | y :: ys, h, x, hx => by
    simp only [shortA, Bool.and_eq_true] at h
    rcases List.mem_cons.mp hx with q | q
    · subst q; exact h.1
    · exact shortA_mem h.2 x q
def fine (d : PyData) : Bool := SeqAt.shaped d && shortD d
theorem fine_shaped {d : PyData} (h : fine d = true) : SeqAt.shaped d = true := (Bool.and_eq_true_iff.mp h).1
theorem fine_list {xs : List PyData} (h : fine (.list xs) = true) : xs.length ≤ 100000 ∧ ∀ x ∈ xs, fine x = true ∧ x.depth < (PyData.list xs).depth := by
  obtain ⟨h1, h2⟩ := Bool.and_eq_true_iff.mp h
  simp only [shortD, Bool.and_eq_true, decide_eq_true_eq] at h2
  exact ⟨h2.1, fun x hx => ⟨Bool.and_eq_true_iff.mpr ⟨(shaped_list h1 x hx).1, shortA_mem h2.2 x hx⟩, (shaped_list h1 x hx).2⟩⟩
theorem fine_tup {xs : List PyData} (h : fine (.tuple xs) = true) : xs.length ≤ 100000 ∧ ∀ x ∈ xs, fine x = true ∧ x.depth < (PyData.tuple xs).depth := by
  obtain ⟨h1, h2⟩ := Bool.and_eq_true_iff.mp h
  simp only [shortD, Bool.and_eq_true, decide_eq_true_eq] at h2
  exact ⟨h2.1, fun x hx => ⟨Bool.and_eq_true_iff.mpr ⟨(shaped_tup h1 x hx).1, shortA_mem h2.2 x hx⟩, (shaped_tup h1 x hx).2⟩⟩
def domSame (n : Nat) : List PyData → PyData → Prop := fun ds r => ∃ g d, ds = [g, d] ∧ d.depth < n ∧ fine g = true ∧ fine d = true ∧ r = .bool (sameD g d)
section
variable {K : PySem.W.Frag} {Γ : List G} {a b : Bool}
theorem rd_neB : RD K (rNeD K) (.bool a) (.bool b) (.bool (a != b)) := by
  have h := rd_neD (K := K) (x := .bool a) (y := .bool b) rfl rfl
  have e : (!PyData.eqv (.bool a) (.bool b)) = (a != b) := by simp [PyData.eqv, bne]
  rw [e] at h
  exact h
theorem rd_eqB : RD K (rEqD K) (.bool a) (.bool b) (.bool (a == b)) := by
  have h := rd_eqD (K := K) (x := .bool a) (y := .bool b) rfl rfl
  have e : PyData.eqv (.bool a) (.bool b) = (a == b) := by simp [PyData.eqv]
  rw [e] at h
  exact h
theorem rd_eqI {i j : Int} : RD K (rEqD K) (.int i) (.int j) (.bool (decide (i = j))) := by
  have h := rd_eqD (K := K) (x := .int i) (y := .int j) rfl rfl
  have e : PyData.eqv (.int i) (.int j) = decide (i = j) := by simp only [PyData.eqv]; rfl
  rw [e] at h
  exact h
def pairSame : PyData → PyData
  | .tuple [x, y] => .bool (sameD x y)
  | _ => .none
theorem map_pairSame : ∀ (xs ys : List PyData), (zipD xs ys).map pairSame = ((xs.zip ys).map fun p => sameD p.1 p.2).map PyData.bool := fun xs ys => by
  unfold zipD
  rw [List.map_map, List.map_map]
  rfl
/-- the row of answers, item by item -/
theorem er_same {D : List PyData → PyData → Prop} {E : XK} {wi : TI} {i j : Nat} {vs : List Nat} {xs ys : List PyData} (hi : EI K wi Γ (zipD xs ys)) (hl : xs.length ≤ 100000) (h1 : i ∈ vs) (h2 : j ∈ vs) (hij : i ≠ j) (hib : i < (wipeG Γ vs).length) (hjb : j < (wipeG Γ vs).length)
    (hD : ∀ x y, x ∈ xs → y ∈ ys → D [x, y] (.bool (sameD x y))) :
    ER K (tLc wi (gTup K 2 (gCons (gName i) (gCons (gName j) gNil))) tYes (tCall (spD K 2 D) [] E (tCons (tVar i) (tCons (tVar j) tNil))) vs) Γ (((xs.zip ys).map fun p => sameD p.1 p.2).map PyData.bool) := by
  refine EF.rd ((ef_lc0 (f := pairSame) hi (by rw [zipD_len]; omega) fun d hd => ?_).is (map_pairSame xs ys))
  obtain ⟨k, hk⟩ := List.getElem?_of_mem hd
  obtain ⟨x, y, hx, hy, rfl⟩ := zipD_get hk
  refine ⟨_, gd_two h1 h2, ed_call (ea_cons (ed_var (d := x) ?_) (ea_cons (ed_var (d := y) ?_) ea_nil)) rfl (hD x y (List.mem_of_getElem? hx) (List.mem_of_getElem? hy))⟩
  · rw [List.getElem?_set_ne hij.symm, List.getElem?_set_self hib]
  · rw [List.getElem?_set_self (by simpa using hjb)]
end
end DL

namespace DL
open PySem PySem.Spec PyProof.Rows L2
open Evl (Ex)
open RZ

/-! ### texts in order -/
abbrev ltS (a b : Str) : Bool := ltCps a.cps.toList b.cps.toList
theorem lt_irr : ∀ a : List Nat, ltCps a a = false
  | [] => rfl
  | a :: r => by
    show (decide (a < a) || (a == a && ltCps r r)) = false
    rw [lt_irr r]
    simp
theorem lt_tri : ∀ {a b : List Nat}, ltCps a b = false → ltCps b a = false → a = b
  | [], [], _, _ => rfl
  | [], _ :: _, h, _ => by cases h
  | _ :: _, [], _, h => by cases h
  | a :: r, b :: t, h1, h2 => by
    simp only [ltCps, Bool.or_eq_false_iff, decide_eq_false_iff_not, Bool.and_eq_false_imp, beq_iff_eq] at h1 h2
    have e : a = b := by omega
    subst e
    rw [lt_tri (h1.2 rfl) (h2.2 rfl)]
theorem lt_trans' : ∀ {a b c : List Nat}, ltCps a b = true → ltCps b c = true → ltCps a c = true
  | [], [], _, h, _ => by cases h
  | [], _ :: _, [], _, h => by cases h
  | [], _ :: _, _ :: _, _, _ => rfl
  | _ :: _, [], _, h, _ => by cases h
  | _ :: _, _ :: _, [], _, h => by cases h
  | a :: r, b :: t, c :: u, h1, h2 => by
    simp only [ltCps, Bool.or_eq_true, decide_eq_true_eq, Bool.and_eq_true, beq_iff_eq] at h1 h2 ⊢
    rcases h1 with h1 | ⟨e1, h1⟩ <;> rcases h2 with h2 | ⟨e2, h2⟩
    · exact .inl (by omega)
    · exact .inl (by omega)
    · exact .inl (by omega)
    · exact .inr ⟨by omega, lt_trans' h1 h2⟩
theorem str_ext {a b : Str} (h : a.cps.toList = b.cps.toList) : a = b := by
  cases a; cases b
  simpa using h
theorem leS_trans {a b c : Str} (h1 : ltS b a = false) (h2 : ltS c b = false) : ltS c a = false := by
  cases h : ltS c a with
  | false => rfl
  | true =>
    exfalso
    cases hbc : ltS b c with
    | true => exact nomatch h1.symm.trans (lt_trans' hbc h)
    | false =>
      have e : b = c := str_ext (lt_tri hbc h2)
      subst e
      rw [h1] at h
      cases h
theorem rising_all : ∀ {x : Str} {r : List Str}, risingS x r = true → ∀ y ∈ r, ltS y x = false
  | x, [], _, y, h => by cases h
  | x, z :: r, h, y, hy => by
    simp only [risingS, Bool.and_eq_true, Bool.not_eq_true'] at h
    rcases List.mem_cons.mp hy with q | q
    · subst q; exact h.1
    · exact leS_trans h.1 (rising_all h.2 y q)
theorem sortedS_tail {x : Str} {r : List Str} (h : sortedS (x :: r) = true) : sortedS r = true := by
  cases r with
  | nil => rfl
  | cons y t =>
    simp only [sortedS, risingS, Bool.and_eq_true] at h
    exact h.2
theorem sorted_unique : ∀ {l m : List Str}, l.Perm m → sortedS l = true → sortedS m = true → l = m
  | [], m, p, _, _ => (List.Perm.nil_eq p)
  | x :: r, [], p, _, _ => by
    have := p.length_eq
    simp at this
  | x :: r, y :: t, p, h1, h2 => by
    have hx : x ∈ y :: t := p.mem_iff.mp List.mem_cons_self
    have hy : y ∈ x :: r := p.mem_iff.mpr List.mem_cons_self
    have e : x = y := by
      rcases List.mem_cons.mp hx with q | q
      · exact q
      · rcases List.mem_cons.mp hy with q2 | q2
        · exact q2.symm
        · exact str_ext (lt_tri (rising_all h2 x q) (rising_all h1 y q2))
    subst e
    rw [sorted_unique (List.Perm.cons_inv p) (sortedS_tail h1) (sortedS_tail h2)]
def insS (x : Str) : List Str → List Str
  | [] => [x]
  | y :: r => if ltS y x = true then y :: insS x r else x :: y :: r
def sortS : List Str → List Str
  | [] => []
  | x :: r => insS x (sortS r)
theorem insS_perm (x : Str) : ∀ l : List Str, (insS x l).Perm (x :: l)
  | [] => .refl _
  | y :: r => by
    unfold insS
    by_cases h : ltS y x = true
    · rw [if_pos h]
      exact ((insS_perm x r).cons y).trans (.swap x y r)
    · rw [if_neg h]
theorem sortS_perm : ∀ l : List Str, (sortS l).Perm l
  | [] => .refl _
  | x :: r => (insS_perm x (sortS r)).trans ((sortS_perm r).cons x)
theorem rising_of : ∀ {x : Str} {l : List Str}, sortedS l = true → (∀ y ∈ l, ltS y x = false) → risingS x l = true
  | x, [], _, _ => rfl
  | x, y :: r, h, hy => by
    show (!ltS y x && risingS y r) = true
    rw [hy y List.mem_cons_self]
    simpa [sortedS] using h
theorem insS_sorted (x : Str) : ∀ {l : List Str}, sortedS l = true → sortedS (insS x l) = true
  | [], _ => rfl
  | y :: r, h => by
    unfold insS
    by_cases hc : ltS y x = true
    · rw [if_pos hc]
      refine rising_of (insS_sorted x (sortedS_tail h)) fun z hz => ?_
      rcases List.mem_cons.mp ((insS_perm x r).mem_iff.mp hz) with q | q
      · subst q
        cases hz2 : ltS z y with
        | false => rfl
        | true =>
          have := lt_trans' hc hz2
          rw [lt_irr] at this
          cases this
      · exact rising_all h z q
    · rw [if_neg hc]
      have hc' : ltS y x = false := by simpa using hc
      show (!ltS y x && risingS y r) = true
      rw [hc']
      simpa [sortedS] using h
theorem sortS_sorted : ∀ l : List Str, sortedS (sortS l) = true
  | [] => rfl
  | x :: r => insS_sorted x (sortS_sorted r)
theorem sortS_mem {x : Str} {l : List Str} : x ∈ sortS l ↔ x ∈ l := (sortS_perm l).mem_iff
theorem sortS_len (l : List Str) : (sortS l).length = l.length := (sortS_perm l).length_eq

section
variable {K : PySem.W.Frag} {Γ Δ : List G} {ta tb te tl : TE} {d x y z : PyData} {ds xs ys : List PyData} {b : Bool} {gs : TGs} {vs : List Nat}
theorem ef_sortS {ss : List Str} (h : ER K te Γ (ss.map PyData.str)) (hl : ss.length < 64) : EF K (tCB (rSortedS K) (tCons te tNil)) Γ ((sortS ss).map PyData.str) := fun _ _ σ Hd H e Q q =>
  h _ _ σ Hd H e _ fun a vs Hd1 H1 x1 h1 d1 => by
    rw [d1.ofStrs] at h1
    refine ⟨a, ss, rfl, SqL.of h1, hl, fun ys p hp hs np => ?_⟩
    have ey : ys = sortS ss := sorted_unique (hp.trans (sortS_perm ss).symm) hs (sortS_sorted ss)
    subst ey
    exact q p _ Hd1 _ (x1.mut (Evl.fresh_back x1.h np) (Evl.fresh_back x1.i np)) (Evl.fresh_back x1.h np) (Evl.fresh_back x1.i np) upd_same (DtA.strs _)

/-! ### a walk of a list or a tuple, a pair of either kind -/
def iSeq (K : PySem.W.Frag) (tl : TE) : TI := fun σ H R => tl σ H fun x H1 => ∃ a, x = .ref a ∧ (((∃ xs, SqL K H1 a xs) ∧ R (Itl K a) H1) ∨ ((∃ xs, SqT K H1 a xs) ∧ R (Itt K a) H1))
theorem pi_seq {X : Cx} {tg l : Expr} (hl : PE X l tl) : PI X tg l (iSeq X.K tl) := by
  refine ⟨fun pins s σ H R I h => ?_⟩
  refine thn (hl.run pins s σ H _ I h) fun v s1 hv => ?_
  obtain ⟨x, H1, I1, r1, a, ex, q⟩ := hv
  subst ex
  have ev : v = Value.ref a := r1
  subst ev
  have fp : ∀ c ∈ [s1.heap.objs.size], FpOk X pins H1 c := fun c hc => by
    have ec : c = s1.heap.objs.size := List.mem_singleton.mp hc
    rw [ec]
    exact I1.fpOk (Nat.le_refl _) (I1.hok.fresh (Nat.le_refl _))
  rcases q with ⟨⟨xs, hq⟩, q⟩ | ⟨⟨xs, hq⟩, q⟩
  · obtain ⟨its, rv, pl, hz⟩ := I1.list hq
    exact wpAny_pyIter_list pl.isList ⟨_, [s1.heap.objs.size], _, _, H1, rfl, I1.kept (t' := s1.toks) fun b o eb => Heap.get?_push_of_some _ eb, turn_list a _, ⟨_, Heap.get?_push_size _ rfl, rfl, rfl⟩, fp, q⟩
  · obtain ⟨its, rv, pl, hz⟩ := I1.tuple hq
    exact wpAny_pyIter_tuple (show s1.heap.IsTuple a its.toArray from pl) ⟨_, [s1.heap.objs.size], _, _, H1, rfl, I1.kept (t' := s1.toks) fun b o eb => Heap.get?_push_of_some _ eb, turn_tuple a _, ⟨_, Heap.get?_push_size _ rfl, rfl, rfl⟩, fp, q⟩
theorem ei_seqL (h : ED K tl Γ (.list ds)) : EI K (iSeq K tl) Γ ds := fun _ _ σ Hd H e R q => h _ _ σ Hd H e _ fun v Hd1 H1 x1 d1 => by
  have hh := ei_list h _ _ σ Hd H e R q
  cases d1 with
  | lst h1 h2 =>
    refine ⟨_, rfl, .inl ⟨⟨_, SqL.of (x1.i _ _ h1)⟩, q _ Hd1 H1 x1 fun Hd' H' e1 e2 => ?_⟩⟩
    have hl := SqL.of (K := K) (e2 _ _ (e1 _ _ h1))
    refine ⟨⟨_, hl, by rw [h2.length]; exact Nat.le_refl _⟩, fun i d hd => ?_⟩
    obtain ⟨u, g1, g2⟩ := h2.got hd
    exact ⟨⟨_, u, hl, g1⟩, fun x H'' ⟨eH, y⟩ => by
      have z := y _ hl
      rw [g1] at z
      cases z
      subst eH
      exact ⟨Hd', .refl e2, g2.mono e1⟩⟩
theorem ei_seqT (h : ED K tl Γ (.tuple ds)) : EI K (iSeq K tl) Γ ds := fun _ _ σ Hd H e R q => h _ _ σ Hd H e _ fun v Hd1 H1 x1 d1 => by
  cases d1 with
  | tup h1 h2 =>
    refine ⟨_, rfl, .inr ⟨⟨_, SqT.of (x1.i _ _ h1)⟩, q _ Hd1 H1 x1 fun Hd' H' e1 e2 => ?_⟩⟩
    have hl := SqT.of (K := K) (e2 _ _ (e1 _ _ h1))
    refine ⟨⟨_, hl, by rw [h2.length]; exact Nat.le_refl _⟩, fun i d hd => ?_⟩
    obtain ⟨u, g1, g2⟩ := h2.got hd
    exact ⟨⟨_, u, hl, g1⟩, fun x H'' ⟨eH, y⟩ => by
      have z := y _ hl
      rw [g1] at z
      cases z
      subst eH
      exact ⟨Hd', .refl e2, g2.mono e1⟩⟩
def gSeq (K : PySem.W.Frag) (n : Nat) (t : TGs) : TG := fun v σ H Q => ∃ a xs, v = .ref a ∧ (SqL K H a xs ∨ SqT K H a xs) ∧ xs.length = n ∧ t xs σ H Q
theorem pg_seq {X : Cx} {pos : Pos} {es : List Expr} {k : Nat} {t : TGs} {n : Nat} (hc : X.calm = true) (h : PGs X es t)
    (hn : (assignEach es X.env).length = n := by rfl) (hst : (assignEach es X.env).findIdx? (·.1) = none := by rfl) : PG X (.Tuple es k pos) (gSeq X.K n t) := by
  refine ⟨fun pins s σ H v u Q I r hw => ?_⟩
  obtain ⟨a, xs, e1, hq, hl, hw⟩ := hw
  rcases hq with hq | hq
  · exact (pg_unl hc h hn hst).run pins s σ H v u Q I r ⟨a, xs, e1, hq, hl, hw⟩
  · exact (pg_tup hc h hn hst).run pins s σ H v u Q I r ⟨a, xs, e1, hq, hl, hw⟩
theorem gd_seqT {n : Nat} (h : GDs K gs Γ ds vs Δ) (hn : ds.length = n) : GD K (gSeq K n gs) Γ (.tuple ds) vs Δ := fun _ _ σ Hd H v e hd Q q => by
  cases hd with
  | tup h1 h2 => exact ⟨_, _, rfl, .inr (SqT.of (e.x.i _ _ h1)), by rw [h2.length, hn], h _ _ σ Hd H _ e h2 Q q⟩
theorem gd_seqL {n : Nat} (h : GDs K gs Γ ds vs Δ) (hn : ds.length = n) : GD K (gSeq K n gs) Γ (.list ds) vs Δ := fun _ _ σ Hd H v e hd Q q => by
  cases hd with
  | lst h1 h2 => exact ⟨_, _, rfl, .inl (SqL.of (e.x.i _ _ h1)), by rw [h2.length, hn], h _ _ σ Hd H _ e h2 Q q⟩
end
end DL

namespace DL
open PySem PySem.Spec PyProof.Rows L2
open Evl (Ex)
open RZ

/-! ### rows of either kind -/
def seqOf : PyData → Option (List PyData)
  | .list xs => some xs
  | .tuple xs => some xs
  | _ => none
section
variable {K : PySem.W.Frag} {Γ Δ : List G} {ta tb te tl : TE} {d x y z : PyData} {ds xs ys : List PyData} {b : Bool} {gs : TGs} {vs : List Nat}
theorem rd_ixQ {i : Int} (hs : seqOf d = some xs) (h : atI xs i = some z) : RD K (rIx K) d (.int i) z := by
  cases d with
  | list ys => cases hs; exact rd_ixL h
  | tuple ys => cases hs; exact rd_ixT h
  | _ => exact nomatch hs
theorem ei_seqQ (hs : seqOf d = some ds) (h : ED K tl Γ d) : EI K (iSeq K tl) Γ ds := by
  cases d with
  | list ys => cases hs; exact ei_seqL h
  | tuple ys => cases hs; exact ei_seqT h
  | _ => exact nomatch hs
theorem gd_seqQ {n : Nat} (hs : seqOf d = some ds) (h : GDs K gs Γ ds vs Δ) (hn : ds.length = n) : GD K (gSeq K n gs) Γ d vs Δ := by
  cases d with
  | list ys => cases hs; exact gd_seqL h hn
  | tuple ys => cases hs; exact gd_seqT h hn
  | _ => exact nomatch hs
theorem gd_twoQ {i j : Nat} (hs : seqOf d = some [x, y]) (hi : i ∈ vs) (hj : j ∈ vs) : GD K (gSeq K 2 (gCons (gName i) (gCons (gName j) gNil))) Γ d vs ((Γ.set i (.dat x)).set j (.dat y)) :=
  gd_seqQ hs (gds_cons (gd_name hi) (gds_cons (gd_name hj) gds_nil)) rfl
theorem ed_lenQ (hs : seqOf d = some ds) (h : ED K te Γ d) : ED K (tCB (rLenOf K) (tCons te tNil)) Γ (.int ds.length) := by
  cases d with
  | list ys => cases hs; exact ed_lenR h.rd
  | tuple ys => cases hs; exact ed_lenT h
  | _ => exact nomatch hs

/-! ### a dict among the data -/
theorem DtK.val {H : Hp} {x : Str} : ∀ {ks : List (Key × V)} {kvs : List (PyData × PyData)} {d : PyData}, DtK K H ks kvs → (kvs.find? fun p => match p.1 with | .str y => decide (y = x) | _ => false) = some (.str x, d) → ∃ v, valV ks (.inr x : Key) = some v ∧ Dt K H v d
  | [], _, _, h, e => by cases h; cases e
  | (k, v) :: ks, _, d, h, e => by
    cases h with
    | @cons y _ _ d' kvs h1 h2 =>
      by_cases z : y = x
      · subst z
        simp only [List.find?_cons, decide_true] at e
        cases e
        exact ⟨v, valV_pos rfl, h1⟩
      · simp only [List.find?_cons, decide_eq_false z] at e
        obtain ⟨w, g1, g2⟩ := DtK.val h2 e
        exact ⟨w, by rw [valV_neg (fun q => z (Sum.inr.inj q))]; exact g1, g2⟩
theorem DtK.noval {H : Hp} {x : Str} : ∀ {ks : List (Key × V)} {kvs : List (PyData × PyData)}, DtK K H ks kvs → (kvs.find? fun p => match p.1 with | .str y => decide (y = x) | _ => false) = none → valV ks (.inr x : Key) = none
  | [], _, h, e => rfl
  | (k, v) :: ks, _, h, e => by
    cases h with
    | @cons y _ _ d' kvs h1 h2 =>
      by_cases z : y = x
      · subst z
        simp [List.find?_cons] at e
      · simp only [List.find?_cons, decide_eq_false z] at e
        rw [valV_neg (fun q => z (Sum.inr.inj q))]
        exact DtK.noval h2 e
theorem dtk_snoc {H : Hp} {x : Str} {v : V} {d : PyData} : ∀ {ks : List (Key × V)} {kvs : List (PyData × PyData)}, DtK K H ks kvs → Dt K H v d → DtK K H (ks ++ [(.inr x, v)]) (kvs ++ [(.str x, d)])
  | [], _, h, g => by cases h; exact .cons g .nil
  | _ :: _, _, h, g => by
    cases h with
    | cons h1 h2 => exact .cons h1 (dtk_snoc h2 g)
def lookD (kvs : List (PyData × PyData)) (x : Str) : Option PyData := (kvs.find? fun p => match p.1 with | .str y => decide (y = x) | _ => false).map (·.2)
theorem find_key {kvs : List (PyData × PyData)} {x : Str} {p : PyData × PyData} (h : (kvs.find? fun p => match p.1 with | .str y => decide (y = x) | _ => false) = some p) : p.1 = .str x := by
  have q := List.find?_some h
  cases e : p.1 <;> rw [e] at q <;> first | (simp at q; rw [q]) | cases q
theorem ed_dget {x : Str} {kvs : List (PyData × PyData)} (h1 : ED K ta Γ (.dict kvs)) (h2 : ED K tb Γ (.str x)) (hl : lookD kvs x = some d) : ED K (tDGet ta tb) Γ d := fun _ _ σ Hd H e Q q =>
  h1 _ _ σ Hd H e _ fun v Hd1 H1 x1 d1 => h2 _ _ σ Hd1 H1 (e.ext x1) _ fun w Hd2 H2 x2 d2 => by
    cases d2
    cases d1 with
    | dct g1 g2 =>
      unfold lookD at hl
      obtain ⟨p, hp, rfl⟩ := Option.map_eq_some_iff.mp hl
      have ek := find_key hp
      obtain ⟨k, d⟩ := p
      simp only at ek
      subst ek
      obtain ⟨u, e1, e2⟩ := DtK.val g2 hp
      refine ⟨_, u, rfl, ?_, q u Hd2 H2 (x1.trans x2) (e2.mono x2.d)⟩
      rw [← e1]
      exact DGet.k (k := Sum.inr x) (x2.h _ _ (x1.i _ _ g1))
theorem ed_din {x : Str} {kvs : List (PyData × PyData)} (h2 : ED K tb Γ (.str x)) (h1 : ED K ta Γ (.dict kvs)) : ED K (tDIn tb ta) Γ (.bool (lookD kvs x).isSome) := fun _ _ σ Hd H e Q q =>
  h2 _ _ σ Hd H e _ fun w Hd1 H1 x1 d1 => h1 _ _ σ Hd1 H1 (e.ext x1) _ fun v Hd2 H2 x2 d2 => by
    cases d1
    cases d2 with
    | @dct _ ks _ g1 g2 =>
      refine ⟨_, valV ks (.inr x : Key), rfl, DGet.k (k := Sum.inr x) (x2.i _ _ g1), ?_⟩
      have eb : (valV ks (.inr x : Key)).isSome = (lookD kvs x).isSome := by
        unfold lookD
        cases hf : kvs.find? (fun p => match p.1 with | .str y => decide (y = x) | _ => false) with
        | none => rw [DtK.noval g2 hf]; rfl
        | some p =>
          obtain ⟨k, d⟩ := p
          have ek := find_key hf
          simp only at ek
          subst ek
          obtain ⟨u, e1, _⟩ := DtK.val g2 hf
          rw [e1]
          rfl
      rw [eb]
      exact q _ Hd2 H2 (x1.trans x2) (.bl _)

/-! ### CHARTS as data -/
structure ChartIs (d : PyData) (ns : List Str) (ms : List (Str × Str)) : Prop where
  ex : ∃ s st mv sts mvs, seqOf d = some [s, st, mv] ∧ seqOf st = some sts ∧ seqOf mv = some mvs ∧ Paired (fun e n => ∃ w, seqOf e = some [.str n, w]) sts ns ∧ Paired (fun e (p : Str × Str) => seqOf e = some [.str p.1, .str p.2]) mvs ms
  nd : ns.Nodup
  mem : ∀ p ∈ ms, p.1 ∈ ns ∧ p.2 ∈ ns
  nl : ns.length ≤ 1000
  ml : ms.length ≤ 31
def firstOf (e : PyData) : PyData := match seqOf e with
  | some (x :: _) => x
  | _ => .none
theorem map_first : ∀ {sts : List PyData} {ns : List Str}, Paired (fun e n => ∃ w, seqOf e = some [.str n, w]) sts ns → sts.map firstOf = ns.map PyData.str
  | _, _, .nil => rfl
  | _, _, .cons h t => by
    obtain ⟨w, hw⟩ := h
    rw [List.map_cons, List.map_cons, map_first t]
    unfold firstOf
    rw [hw]
theorem pairGet {α β : Type} {F : α → β → Prop} : ∀ {l : List α} {m : List β} {i : Nat} {x : α}, Paired F l m → l[i]? = some x → ∃ y, m[i]? = some y ∧ F x y
  | _, _, _, _, .nil, h => by cases h
  | _, _, 0, _, .cons r t, h => by cases h; exact ⟨_, rfl, r⟩
  | _, _, i + 1, x, .cons r t, h => pairGet (i := i) t h
theorem pairGot {α β : Type} {F : α → β → Prop} : ∀ {l : List α} {m : List β} {i : Nat} {y : β}, Paired F l m → m[i]? = some y → ∃ x, l[i]? = some x ∧ F x y
  | _, _, _, _, .nil, h => by cases h
  | _, _, 0, _, .cons r t, h => by cases h; exact ⟨_, rfl, r⟩
  | _, _, i + 1, x, .cons r t, h => pairGot (i := i) t h
def nearL (ms : List (Str × Str)) (n : Str) : List Str := ms.flatMap fun p => (if p.1 = n then [p.2] else []) ++ (if p.2 = n then [p.1] else [])
def nearD (ns : List Str) (ms : List (Str × Str)) : PyData := .dict (ns.map fun n => (.str n, .list ((sortS (nearL ms n)).map PyData.str)))
theorem nearL_len (ms : List (Str × Str)) (n : Str) : (nearL ms n).length ≤ 2 * ms.length := by
  induction ms with
  | nil => exact Nat.le_refl _
  | cons p r ih =>
    have e : nearL (p :: r) n = ((if p.1 = n then [p.2] else []) ++ (if p.2 = n then [p.1] else [])) ++ nearL r n := by
      unfold nearL; rw [List.flatMap_cons]
    rw [e, List.length_append, List.length_append, List.length_cons]
    have h1 : (if p.1 = n then [p.2] else []).length ≤ 1 := by split <;> simp
    have h2 : (if p.2 = n then [p.1] else []).length ≤ 1 := by split <;> simp
    omega
theorem nearL_mem {ms : List (Str × Str)} {n x : Str} : x ∈ nearL ms n ↔ (n, x) ∈ ms ∨ (x, n) ∈ ms := by
  unfold nearL
  rw [List.mem_flatMap]
  constructor
  · rintro ⟨⟨a, b⟩, hp, hx⟩
    rcases List.mem_append.mp hx with h | h
    · by_cases z : a = n
      · simp only [if_pos z, List.mem_singleton] at h
        subst z h
        exact .inl hp
      · simp [if_neg z] at h
    · by_cases z : b = n
      · simp only [if_pos z, List.mem_singleton] at h
        subst z h
        exact .inr hp
      · simp [if_neg z] at h
  · rintro (h | h)
    · exact ⟨_, h, by simp⟩
    · exact ⟨_, h, by simp⟩
def domNames : List PyData → PyData → Prop := fun ds r => ∃ d ns ms, ds = [d] ∧ ChartIs d ns ms ∧ r = .tuple (ns.map PyData.str)
def domNear : List PyData → PyData → Prop := fun ds r => ∃ d ns ms, ds = [d] ∧ ChartIs d ns ms ∧ r = nearD ns ms
end

/-! ### lists kept in a dict while they grow -/
def dk (as : List (Str × Addr)) : List (Key × V) := as.map fun p => (Sum.inr p.1, V.ref p.2)
theorem dk_look : ∀ {as : List (Str × Addr)} {x : Str} {p : Addr}, (as.map (·.1)).Nodup → (x, p) ∈ as → valV (dk as) (.inr x : Key) = some (.ref p)
  | [], _, _, _, h => by cases h
  | (y, q) :: r, x, p, nd, h => by
    rw [List.map_cons, List.nodup_cons] at nd
    by_cases z : y = x
    · subst z
      rcases List.mem_cons.mp h with e | h
      · cases e; exact valV_pos rfl
      · exact absurd (List.mem_map_of_mem h) nd.1
    · rcases List.mem_cons.mp h with e | h
      · cases e; exact absurd rfl z
      · show valV ((Sum.inr y, V.ref q) :: dk r) _ = _
        rw [valV_neg (fun e => z (Sum.inr.inj e))]
        exact dk_look nd.2 h
structure Nr (H0 Hd H : Hp) (a : Addr) (as : List (Str × Addr)) (c : Str → List Str) : Prop where
  n0 : H0 a = none
  nd : Hd a = none
  l : ∀ p ∈ as, H0 p.2 = none ∧ Hd p.2 = none ∧ p.2 ≠ a ∧ H p.2 = some (.lst ((c p.1).map V.str))
  kd : (as.map (·.1)).Nodup
  ad : (as.map (·.2)).Nodup
theorem addr_ne {as : List (Str × Addr)} (kd : (as.map (·.2)).Nodup) {p q : Str × Addr} (hp : p ∈ as) (hq : q ∈ as) (h : p.2 = q.2) : p = q := by
  induction as with
  | nil => cases hp
  | cons r t ih =>
    rw [List.map_cons, List.nodup_cons] at kd
    rcases List.mem_cons.mp hp with e | hp'
    · rcases List.mem_cons.mp hq with e2 | hq'
      · rw [e, e2]
      · subst e
        exact absurd (List.mem_map_of_mem (f := (·.2)) hq') (by rw [← h]; exact kd.1)
    · rcases List.mem_cons.mp hq with e2 | hq'
      · subst e2
        exact absurd (List.mem_map_of_mem (f := (·.2)) hp') (by rw [h]; exact kd.1)
      · exact ih kd.2 hp' hq'
theorem Nr.app {H0 Hd H : Hp} {a : Addr} {as : List (Str × Addr)} {c : Str → List Str} (h : Nr H0 Hd H a as c) {x y : Str} {p : Addr} (hp : (x, p) ∈ as) : Nr H0 Hd (upd H p (.lst ((c x ++ [y]).map V.str))) a as (fun n => if n = x then c n ++ [y] else c n) := by
  refine ⟨h.n0, h.nd, fun q hq => ?_, h.kd, h.ad⟩
  obtain ⟨h1, h2, h3, h4⟩ := h.l q hq
  refine ⟨h1, h2, h3, ?_⟩
  by_cases z : q.2 = p
  · have e := addr_ne h.ad hq hp z
    subst e
    rw [upd_same]
    simp
  · rw [upd_ne z, h4]
    have nx : q.1 ≠ x := fun e => by
      obtain ⟨q1, q2⟩ := q
      simp only at e
      subst e
      have i1 := dk_look h.kd hq
      have i2 := dk_look h.kd hp
      rw [i1] at i2
      cases i2
      exact z rfl
    rw [if_neg nx]
theorem Nr.ext {H0 Hd H Hd' H' : Hp} {a : Addr} {as : List (Str × Addr)} {c : Str → List Str} (h : Nr H0 Hd H a as c) (ha : ∃ o, H a = some o) (x : Ext Hd H Hd' H') : Nr H0 Hd' H' a as c := by
  obtain ⟨o, ho⟩ := ha
  refine ⟨h.n0, x.f _ _ h.nd ho, fun q hq => ?_, h.kd, h.ad⟩
  obtain ⟨h1, h2, h3, h4⟩ := h.l q hq
  exact ⟨h1, x.f _ _ h2 h4, h3, x.h _ _ h4⟩
theorem En.mutO {K : PySem.W.Frag} {Hd0 H0 Hd H : Hp} {Γ : List G} {σ : L2.St} (e : En K Hd0 H0 Γ σ Hd H) {p : Addr} {o : HO} (n0 : H0 p = none) (nd : Hd p = none) (no : ∀ (i : Nat) (ds : List PyData), Γ[i]? ≠ some (G.own ds)) : En K Hd0 H0 Γ σ Hd (upd H p o) := by
  refine ⟨e.x.mut n0 nd, e.l, fun i g hg => ?_, e.o⟩
  have q := e.g i g hg
  cases g with
  | own ds => exact absurd hg (no i ds)
  | any => trivial
  | val v => exact q
  | dat d => exact q
/-- near[x].append(y) -/
theorem app_near {K : PySem.W.Frag} {H0 Hd H : Hp} {σ : L2.St} {D : Ends} {a p : Addr} {as : List (Str × Addr)} {c : Str → List Str} {i j k : Nat} {x y : Str} (h : Nr H0 Hd H a as c) (ha : H a = some (.dK (dk as))) (hk : σ[k]? = some (some (.ref a))) (hi : σ[i]? = some (some (.str x))) (hj : σ[j]? = some (some (.str y)))
    (hp : (x, p) ∈ as) (hl : (c x).length < 1000) (q : D.nx σ (upd H p (.lst ((c x ++ [y]).map V.str)))) : tDrop (tBM K "list" rAppend (tDGet (tVar k) (tVar i)) (tCons (tVar j) tNil)) D σ H := by
  obtain ⟨_, _, _, h4⟩ := h.l _ hp
  refine ⟨_, hk, _, hi, a, .ref p, rfl, ?_, tyV_list h4, _, hj, p, _, .str y, rfl, rfl, h4, ?_, ?_⟩
  · rw [← dk_look h.kd hp]
    exact DGet.k (k := Sum.inr x) ha
  · rw [List.length_map]
    exact Nat.lt_of_lt_of_le hl (by decide)
  · rw [List.map_append] at q
    exact q
end DL

namespace DL
open PySem PySem.Spec PyProof.Rows L2
open Evl (Ex)
open RZ
/-! ### the rules with the written part named -/
section
variable (K : PySem.W.Frag) {X : Cx}
theorem ixS (h : X.K = K := by rfl) : IxR X (rIx K) := h ▸ ix_seq
theorem lenS (h : X.K = K := by rfl) : CallR X (.builtin "len") (rLenOf K) := h ▸ call_len_seq
theorem tupS (h : X.K = K := by rfl) : CallR X (.type "tuple") (rTupOf K) := h ▸ call_tuple_of
theorem listS (h : X.K = K := by rfl) : CallR X (.type "list") (rListOf K) := h ▸ call_list_of
theorem allS (h : X.K = K := by rfl) (hc : X.calm = true := by rfl) : CallR X (.builtin "all") (rAll K) := h ▸ cr_all hc
theorem sortedSS (h : X.K = K := by rfl) : CallR X (.builtin "sorted") (rSortedS K) := h ▸ cr_sortedS
theorem isiS (h : X.K = K := by rfl) : CallR X (.builtin "isinstance") (rIsi K) := h ▸ call_isi
theorem isiTS (h : X.K = K := by rfl) : CallR X (.builtin "isinstance") (rIsiT K) := h ▸ call_isiT
theorem inS (h : X.K = K := by rfl) : OpR X (compareOp .In) (rIn K false) := h ▸ op_in_seq
theorem ninS (h : X.K = K := by rfl) : OpR X (compareOp .NotIn) (rIn K true) := h ▸ op_notIn_seq
theorem eqS (hu : X.A.units + 64 < cLine) (h : X.K = K := by rfl) : OpR X (compareOp .Eq) (rEqD K) := h ▸ op_eqD hu
theorem neS (hu : X.A.units + 64 < cLine) (h : X.K = K := by rfl) : OpR X (compareOp .NotEq) (rNeD K) := h ▸ op_neD hu
theorem slL (h : X.K = K := by rfl) : SlR X (rSlL K) := h ▸ sl_list
theorem slT (h : X.K = K := by rfl) : SlR X (rSlA K) := h ▸ sl_tupA
theorem catT (h : X.K = K := by rfl) : OpR X (binaryOp .Add) (rCatA K) := h ▸ op_catA
theorem repT (h : X.K = K := by rfl) : OpR X (binaryOp .Mult) (rRepT K) := h ▸ op_repT
variable {tl : TE} {ta : TA} {tg l e e2 : Expr}
theorem piList (hl : PE X l tl) (h : X.K = K := by rfl) : PI X tg l (iList K tl) := h ▸ pi_list hl
theorem piTup (hl : PE X l tl) (h : X.K = K := by rfl) : PI X tg l (iTup K tl) := h ▸ pi_tup hl
theorem piSeq (hl : PE X l tl) (h : X.K = K := by rfl) : PI X tg l (iSeq K tl) := h ▸ pi_seq hl
theorem piEnum {p pos tpos : Pos} {elts : List Expr} {kk : Nat} (hg : Gl X "enumerate") (hm : X.mg "enumerate" = none) (ha : PA X [e] ta) (hs : starEach [e] X.env = [(false, eval e X.env)] := by rfl) (h : X.K = K := by rfl) :
    PI X (.Tuple elts kk tpos) (.Call (.Name "enumerate" p) [e] [] pos) (iEnum K ta) := h ▸ pi_enum hg hm ha hs
theorem piZip {p pos tpos : Pos} {elts : List Expr} {kk : Nat} (hg : Gl X "zip") (hm : X.mg "zip" = none) (ha : PA X [e, e2] ta)
    (hs : starEach [e, e2] X.env = (false, eval e X.env) :: starEach [e2] X.env := by rfl) (hpl : (backTo pos (starEach [e2] X.env)).any (·.1) = false := by rfl) (h : X.K = K := by rfl) :
    PI X (.Tuple elts kk tpos) (.Call (.Name "zip" p) [e, e2] [] pos) (iZipA K ta) := h ▸ pi_zipA hg hm ha hs hpl
variable {pos : Pos} {es : List Expr} {k n : Nat} {t : TGs}
theorem pgTup (hc : X.calm = true) (hp : PGs X es t) (hn : (assignEach es X.env).length = n := by rfl) (hst : (assignEach es X.env).findIdx? (·.1) = none := by rfl) (h : X.K = K := by rfl) : PG X (.Tuple es k pos) (gTup K n t) := h ▸ pg_tup hc hp hn hst
theorem pgSeq (hc : X.calm = true) (hp : PGs X es t) (hn : (assignEach es X.env).length = n := by rfl) (hst : (assignEach es X.env).findIdx? (·.1) = none := by rfl) (h : X.K = K := by rfl) : PG X (.Tuple es k pos) (gSeq K n t) := h ▸ pg_seq hc hp hn hst
end
end DL

namespace DL
open PySem PySem.Spec PyProof.Rows L2
open Evl (Ex)
open RZ
theorem lookD_map {F : Str → PyData} {a : Str} : ∀ {ns : List Str}, lookD (ns.map fun n => (.str n, F n)) a = if a ∈ ns then some (F a) else none
  | [] => rfl
  | n :: r => by
    have ih := lookD_map (F := F) (a := a) (ns := r)
    unfold lookD at ih ⊢
    rw [List.map_cons, List.find?_cons]
    by_cases z : n = a
    · subst z
      simp
    · have z' : ¬ a = n := fun q => z q.symm
      simp only [decide_eq_false z]
      rw [ih]
      simp [z']
/-- a text of the row, one of ns -/
def strIn (ns : List Str) : PyData → Bool
  | .str s => decide (s ∈ ns)
  | _ => false
def stepOk (ms : List (Str × Str)) (x y : PyData) : Bool := match x, y with
  | .str a, .str b => decide (b ∈ nearL ms a)
  | _, _ => false
def isWalkB (ns : List Str) (ms : List (Str × Str)) : PyData → Bool
  | .tuple xs => decide (xs.length ≠ 0) && (xs.all (strIn ns) && (xs.zip (xs.drop 1)).all fun p => stepOk ms p.1 p.2)
  | _ => false
def domWalk : List PyData → PyData → Prop := fun ds r => ∃ d ns ms th, ds = [d, th] ∧ ChartIs d ns ms ∧ fine th = true ∧ r = .bool (isWalkB ns ms th)
theorem cutD_from1 (xs : List PyData) : cutD xs (some 1) none = xs.drop 1 := by
  unfold cutD
  rw [HT.sIx_none, show HT.sIx xs.length 0 (some 1) = min 1 xs.length from HT.sIx_nat xs.length 0 1]
  cases xs with
  | nil => rfl
  | cons x r =>
    rw [Nat.min_eq_left (by simp)]
    exact List.take_of_length_le (by simp)
theorem map_bool {f : PyData → Bool} (xs : List PyData) : xs.map (fun x => PyData.bool (f x)) = (xs.map f).map PyData.bool := by
  rw [List.map_map]
  rfl
theorem all_map_id {α : Type} {f : α → Bool} (xs : List α) : (xs.map f).all id = xs.all f := by
  rw [List.all_map]
  rfl
def pairStep (ms : List (Str × Str)) : PyData → PyData
  | .tuple [x, y] => .bool (stepOk ms x y)
  | _ => .none
theorem map_pairStep (ms : List (Str × Str)) (xs ys : List PyData) : (zipD xs ys).map (pairStep ms) = ((xs.zip ys).map fun p => stepOk ms p.1 p.2).map PyData.bool := by
  unfold zipD
  rw [List.map_map, List.map_map]
  rfl
section
variable {K : PySem.W.Frag} {Γ : List G} {d : PyData}
theorem ret_false {b : Bool} (h : b = false) : SD K (tRet (tC (.bl false))) Γ (.rt (.bool b)) := by
  subst h
  exact sd_ret ed_bl
end
end DL

namespace DL
open PySem PySem.Spec PyProof.Rows L2
open Evl (Ex)
open RZ
/-! ### code that draws: the source at p changes, all else stays -/
def hid (p : Addr) (H : Hp) : Hp := fun a => if a = p then none else H a
theorem hid_same {p : Addr} {H : Hp} : hid p H p = none := by unfold hid; rw [if_pos rfl]
theorem hid_ne {p a : Addr} {H : Hp} (h : a ≠ p) : hid p H a = H a := by unfold hid; rw [if_neg h]
theorem hid_ex {p : Addr} {H : Hp} : Ex (hid p H) H := fun a o h => by
  by_cases z : a = p
  · subst z; rw [hid_same] at h; cases h
  · rw [hid_ne z] at h; exact h
theorem hid_mono {p : Addr} {H H' : Hp} (e : Ex H H') : Ex (hid p H) (hid p H') := fun a o h => by
  by_cases z : a = p
  · subst z; rw [hid_same] at h; cases h
  · rw [hid_ne z] at h ⊢; exact e _ _ h
/-- what is known within a def that draws -/
structure EnB (K : PySem.W.Frag) (p : Addr) (Hd0 H0 : Hp) (Γ : List G) (c : Nat) (σ : L2.St) (Hd H : Hp) : Prop where
  en : En K Hd0 H0 Γ σ Hd H
  d : Hd p = none
  z : H0 p = none
  b : ∃ o, H p = some o ∧ BoxO c o
  o : ∀ (i : Nat) (ds : List PyData), Γ[i]? = some (G.own ds) → σ[i]? ≠ some (some (.ref p))
section
variable {K : PySem.W.Frag} {p : Addr} {Hd0 H0 Hd H Hd' H' : Hp} {Γ Δ : List G} {c n m : Nat} {σ : L2.St}
/-- pure steps -/
theorem EnB.ext (e : EnB K p Hd0 H0 Γ c σ Hd H) (x : Ext Hd H Hd' H') : EnB K p Hd0 H0 Γ c σ Hd' H' := by
  obtain ⟨o, ho, hb⟩ := e.b
  exact ⟨e.en.ext x, x.f _ _ e.d ho, e.z, ⟨o, x.h _ _ ho, hb⟩, e.o⟩
theorem EnB.mono (e : EnB K p Hd0 H0 Γ c σ Hd H) (h : c ≤ m) : EnB K p Hd0 H0 Γ m σ Hd H := by
  obtain ⟨o, ho, hb⟩ := e.b
  exact ⟨e.en, e.d, e.z, ⟨o, ho, hb.mono h⟩, e.o⟩
/-- a step that draws -/
theorem EnB.draw (e : EnB K p Hd0 H0 Γ c σ Hd H) (x : Ext Hd (hid p H) Hd' H') (hd : Hd' p = none) (hb : ∃ o, H' p = some o ∧ BoxO m o) : EnB K p Hd0 H0 Γ m σ Hd' H' := by
  refine ⟨⟨⟨e.en.x.d.trans x.d, fun a o h => ?_, x.i, fun a o h1 h2 => ?_⟩, e.en.l, fun i g hg => ?_, e.en.o⟩, hd, e.z, hb, e.o⟩
  · have np : a ≠ p := fun q => by subst q; rw [e.z] at h; cases h
    exact x.h _ _ (by rw [hid_ne np]; exact e.en.x.h _ _ h)
  · have np : a ≠ p := fun q => by subst q; rw [e.z] at h2; cases h2
    exact x.f a o (e.en.x.f a o h1 h2) (by rw [hid_ne np]; exact e.en.x.h _ _ h2)
  · have q := e.en.g i g hg
    cases g with
    | any => trivial
    | val v => exact q
    | dat d =>
      obtain ⟨v, h1, h2⟩ := q
      exact ⟨v, h1, h2.mono x.d⟩
    | own ds =>
      obtain ⟨a, vs, h1, h0, h2, h3, h4⟩ := q
      have np : a ≠ p := fun z => by subst z; exact e.o i ds hg h1
      have h3' : hid p H a = some (.lst vs) := by rw [hid_ne np]; exact h3
      exact ⟨a, vs, h1, h0, x.f _ _ h2 h3', x.h _ _ h3', h4.mono x.d⟩
theorem ext_hid {o : HO} (e : Ex Hd H) (hd : Hd p = none) : Ext Hd (hid p H) Hd (upd H p o) :=
  ⟨.refl _, fun a u h => by
    have np : a ≠ p := fun q => by subst q; rw [hid_same] at h; cases h
    rw [hid_ne np] at h
    rw [upd_ne np]
    exact h, fun a u h => by
    have np : a ≠ p := fun q => by subst q; rw [hd] at h; cases h
    rw [upd_ne np]
    exact e _ _ h, fun _ _ h _ => h⟩
theorem Ext.hidE (x : Ext Hd H Hd' H') : Ext Hd (hid p H) Hd' H' := ⟨x.d, hid_ex.trans x.h, x.i, fun a o h1 h2 => x.f a o h1 (hid_ex _ _ h2)⟩
theorem Ext.hid2 {B C : Hp} (x : Ext Hd (hid p H) Hd' H') (y : Ext Hd' (hid p H') B C) : Ext Hd (hid p H) B C := by
  refine ⟨x.d.trans y.d, fun a o h => ?_, y.i, fun a o h1 h2 => ?_⟩
  · have np : a ≠ p := fun q => by subst q; rw [hid_same] at h; cases h
    exact y.h _ _ (by rw [hid_ne np]; exact x.h _ _ h)
  · have np : a ≠ p := fun q => by subst q; rw [hid_same] at h2; cases h2
    exact y.f a o (x.f a o h1 h2) (by rw [hid_ne np]; exact x.h _ _ h2)
end
section
variable (K : PySem.W.Frag) (p : Addr)
/-- te draws at most n times and gives some data of which R is true -/
def EB (te : TE) (Γ : List G) (n : Nat) (R : PyData → Prop) : Prop := ∀ Hd0 H0 c σ Hd H, EnB K p Hd0 H0 Γ c σ Hd H → c + n < 2 ^ 60 → ∀ Q : VK, (∀ v r Hd' H', R r → Ext Hd (hid p H) Hd' H' → EnB K p Hd0 H0 Γ (c + n) σ Hd' H' → Dt K Hd' v r → Q v H') → te σ H Q
def EAB (ta : TA) (Γ : List G) (n : Nat) (R : List PyData → Prop) : Prop := ∀ Hd0 H0 c σ Hd H, EnB K p Hd0 H0 Γ c σ Hd H → c + n < 2 ^ 60 → ∀ Q : List V → Hp → Prop, (∀ vs rs Hd' H', R rs → Ext Hd (hid p H) Hd' H' → EnB K p Hd0 H0 Γ (c + n) σ Hd' H' → DtA K Hd' vs rs → Q vs H') → ta σ H Q
def EIB (wi : TI) (Γ : List G) (n : Nat) (R : List PyData → Prop) : Prop := ∀ Hd0 H0 c σ Hd H, EnB K p Hd0 H0 Γ c σ Hd H → c + n < 2 ^ 60 → ∀ S : It → Hp → Prop, (∀ J rs Hd' H', R rs → Ext Hd (hid p H) Hd' H' → EnB K p Hd0 H0 Γ (c + n) σ Hd' H' → ItOk K J Hd' rs → S J H') → wi σ H S
end
section
variable {K : PySem.W.Frag} {p : Addr} {Γ Δ : List G} {n m : Nat} {ta tb te : TE} {d : PyData} {ds : List PyData} {R R1 R2 : PyData → Prop}
theorem EB.le (h : EB K p te Γ n R) (hn : n ≤ m) : EB K p te Γ m R := fun _ _ c σ Hd H e hc Q q =>
  h _ _ c σ Hd H e (by omega) Q fun v r Hd' H' hr x e' dv => q v r Hd' H' hr x (e'.mono (by omega)) dv
theorem EB.imp {R' : PyData → Prop} (h : EB K p te Γ n R) (hi : ∀ r, R r → R' r) : EB K p te Γ n R' := fun _ _ c σ Hd H e hc Q q =>
  h _ _ c σ Hd H e hc Q fun v r Hd' H' hr x e' dv => q v r Hd' H' (hi r hr) x e' dv
theorem ED.b (h : ED K te Γ d) : EB K p te Γ 0 (fun r => r = d) := fun _ _ c σ Hd H e _ Q q =>
  h _ _ σ Hd H e.en Q fun v Hd' H' x dv => q v d Hd' H' rfl x.hidE (e.ext x) dv
theorem eb_op {r : L2.R2} (h1 : EB K p ta Γ n R1) (h2 : EB K p tb Γ m R2) (hr : ∀ x y, R1 x → R2 y → ∃ z, RD K r x y z ∧ R z) : EB K p (tOp r ta tb) Γ (n + m) R := fun _ _ c σ Hd H e hc Q q =>
  h1 _ _ c σ Hd H e (by omega) _ fun v x Hd1 H1 hx x1 e1 d1 => h2 _ _ _ σ Hd1 H1 e1 (by omega) _ fun w y Hd2 H2 hy x2 e2 d2 => by
    obtain ⟨z, hz, rz⟩ := hr x y hx hy
    refine hz Hd2 H2 v w x2.i (d1.mono x2.d) d2 Q fun u Hd3 H3 x3 d3 => q u z Hd3 H3 rz ((x1.hid2 x2).hid2 x3.hidE) ?_ d3
    have := e2.ext x3
    rw [Nat.add_assoc] at this
    exact this
theorem eab_nil : EAB K p tNil Γ 0 (fun rs => rs = []) := fun _ _ c σ Hd H e _ Q q => q [] [] Hd H rfl (Ext.refl e.en.x.i).hidE e .nil
theorem eab_cons {tr : TA} {S : List PyData → Prop} (h : EB K p ta Γ n R) (hr : EAB K p tr Γ m S) : EAB K p (tCons ta tr) Γ (n + m) (fun rs => ∃ r rr, rs = r :: rr ∧ R r ∧ S rr) := fun _ _ c σ Hd H e hc Q q =>
  h _ _ c σ Hd H e (by omega) _ fun v r Hd1 H1 h1 x1 e1 d1 => hr _ _ _ σ Hd1 H1 e1 (by omega) _ fun vs rr Hd2 H2 h2 x2 e2 d2 =>
    q _ _ Hd2 H2 ⟨r, rr, rfl, h1, h2⟩ (x1.hid2 x2) (by have := e2; rw [Nat.add_assoc] at this; exact this) (.cons (d1.mono x2.d) d2)
theorem EAB.imp {ta : TA} {S S' : List PyData → Prop} (h : EAB K p ta Γ n S) (hi : ∀ r, S r → S' r) : EAB K p ta Γ n S' := fun _ _ c σ Hd H e hc Q q =>
  h _ _ c σ Hd H e hc Q fun v r Hd' H' hr x e' dv => q v r Hd' H' (hi r hr) x e' dv
theorem EA.b {ta : TA} (h : EA K ta Γ ds) : EAB K p ta Γ 0 (fun rs => rs = ds) := fun _ _ c σ Hd H e _ Q q =>
  h _ _ σ Hd H e.en Q fun v Hd' H' x dv => q v ds Hd' H' rfl x.hidE (e.ext x) dv
/-- a call of a built-in -/
theorem eb_cb {ta : TA} {r : List V → Hp → VK → Prop} {S : List PyData → Prop} (h : EAB K p ta Γ n S) (hr : ∀ xs, S xs → ∃ z, CD K r xs z ∧ R z) : EB K p (tCB r ta) Γ n R := fun _ _ c σ Hd H e hc Q q =>
  h _ _ c σ Hd H e hc _ fun vs xs Hd1 H1 hx x1 e1 d1 => by
    obtain ⟨z, hz, rz⟩ := hr xs hx
    exact hz Hd1 H1 vs x1.i d1 Q fun u Hd2 H2 x2 d2 => q u z Hd2 H2 rz (x1.hid2 x2.hidE) (e1.ext x2) d2
theorem eb_tup {ta : TA} {S : List PyData → Prop} (h : EAB K p ta Γ n S) (hl : ∀ xs, S xs → xs.length ≤ 100000) : EB K p (tTup ta) Γ n (fun r => ∃ xs, r = .tuple xs ∧ S xs) := fun _ _ c σ Hd H e hc Q q =>
  h _ _ c σ Hd H e hc _ fun vs xs Hd1 H1 hx x1 e1 d1 => ⟨fits_of (d1.length ▸ hl xs hx), fun a ha => by
    have y : Ext Hd1 H1 (upd Hd1 a (.tup vs)) (upd H1 a (.tup vs)) := (Ext.refl x1.i).new ha
    exact q _ _ _ _ ⟨xs, rfl, hx⟩ (x1.hid2 y.hidE) (e1.ext y) (.tup upd_same (d1.mono (Ex.new (Evl.fresh_back x1.i ha))))⟩
theorem eb_lst {ta : TA} {S : List PyData → Prop} (h : EAB K p ta Γ n S) (hl : ∀ xs, S xs → xs.length ≤ 100000) : EB K p (tLst ta) Γ n (fun r => ∃ xs, r = .list xs ∧ S xs) := fun _ _ c σ Hd H e hc Q q =>
  h _ _ c σ Hd H e hc _ fun vs xs Hd1 H1 hx x1 e1 d1 => ⟨fits_of (d1.length ▸ hl xs hx), fun a ha => by
    have y : Ext Hd1 H1 (upd Hd1 a (.lst vs)) (upd H1 a (.lst vs)) := (Ext.refl x1.i).new ha
    exact q _ _ _ _ ⟨xs, rfl, hx⟩ (x1.hid2 y.hidE) (e1.ext y) (.lst upd_same (d1.mono (Ex.new (Evl.fresh_back x1.i ha))))⟩
/-- a draw -/
theorem eb_take {i : Nat} {top : Int} (hi : Γ[i]? = some (.val (.ref p))) (ht : ED K tb Γ (.int top)) (h1 : 1 ≤ top) (h2 : top < 1073741824) : EB K p (tCall spTake [] E0 (tCons (tVar i) (tCons tb tNil))) Γ 1 (fun r => ∃ k : Int, r = .int k ∧ 0 ≤ k ∧ k < top) := fun _ _ c σ Hd H e hc Q q =>
  ⟨_, e.en.g i _ hi, ht _ _ σ Hd H e.en _ fun v Hd1 H1 x1 d1 => by
    cases d1
    have e1 := e.ext x1
    obtain ⟨o, ho, hb⟩ := e1.b
    refine ⟨p, top, c, o, rfl, h1, h2, ho, hb, by omega, fun r o' hr0 hr1 hb' => ?_⟩
    have x2 := ext_hid (o := o') x1.i e1.d
    exact q _ _ Hd1 _ ⟨r, rfl, hr0, hr1⟩ (x1.hidE.hid2 x2) (e1.draw x2 e1.d ⟨o', upd_same, hb'⟩) (.int r)⟩
theorem eb_takeB {i : Nat} {R1 : PyData → Prop} {b : Int} (hi : Γ[i]? = some (.val (.ref p))) (ht : EB K p tb Γ n R1) (h1 : ∀ r, R1 r → ∃ top : Int, r = .int top ∧ 1 ≤ top ∧ top < 1073741824 ∧ top ≤ b) : EB K p (tCall spTake [] E0 (tCons (tVar i) (tCons tb tNil))) Γ (n + 1) (fun r => ∃ k : Int, r = .int k ∧ 0 ≤ k ∧ k < b) := fun _ _ c σ Hd H e hc Q q =>
  ⟨_, e.en.g i _ hi, ht _ _ c σ Hd H e (by omega) _ fun v r0 Hd1 H1 hr0 x1 e1 d1 => by
    obtain ⟨top, rfl, t1, t2, t3⟩ := h1 r0 hr0
    cases d1
    obtain ⟨o, ho, hb⟩ := e1.b
    refine ⟨p, top, c + n, o, rfl, t1, t2, ho, hb, by omega, fun r o' hr0 hr1 hb' => ?_⟩
    have x2 := ext_hid (o := o') x1.i e1.d
    exact q _ _ Hd1 _ ⟨r, rfl, hr0, by omega⟩ (x1.hid2 x2) (e1.draw x2 e1.d ⟨o', upd_same, hb'⟩) (.int r)⟩
/-- one of a list's items -/
theorem eb_of {i : Nat} (hi : Γ[i]? = some (.val (.ref p))) (ht : ED K tb Γ (.list ds)) (h1 : 1 ≤ ds.length) (h2 : ds.length < 1000000) : EB K p (tCall spOf [] E0 (tCons (tVar i) (tCons tb tNil))) Γ 1 (fun r => r ∈ ds) := fun _ _ c σ Hd H e hc Q q =>
  ⟨_, e.en.g i _ hi, ht _ _ σ Hd H e.en _ fun v Hd1 H1 x1 d1 => by
    cases d1 with
    | @lst a ws _ g1 g2 =>
      have e1 := e.ext x1
      obtain ⟨o, ho, hb⟩ := e1.b
      have hap : a ≠ p := fun z => by
        subst z
        rw [e1.d] at g1
        cases g1
      have hl := g2.length
      refine ⟨p, a, ws, c, o, rfl, x1.i _ _ g1, hap, by omega, by omega, ho, hb, by omega, fun v o' hv hb' => ?_⟩
      obtain ⟨k, hk⟩ := List.getElem?_of_mem hv
      obtain ⟨d, hd, dv⟩ := g2.get hk
      have x2 := ext_hid (o := o') x1.i e1.d
      exact q _ _ Hd1 _ (List.mem_of_getElem? hd) (x1.hidE.hid2 x2) (e1.draw x2 e1.d ⟨o', upd_same, hb'⟩) dv⟩
end
end DL

namespace DL
open PySem PySem.Spec PyProof.Rows L2
open Evl (Ex)
open RZ
section
variable {K : PySem.W.Frag} {p : Addr} {Hd0 H0 Hd H Hd' H' : Hp} {Γ Δ : List G} {c n m : Nat} {σ : L2.St}
theorem EnB.set (e : EnB K p Hd0 H0 Γ c σ Hd H) {i : Nat} {v : V} {d : PyData} (hd : Dt K Hd v d) : EnB K p Hd0 H0 (Γ.set i (.dat d)) c (σ.set i (some v)) Hd H := by
  refine ⟨e.en.set hd, e.d, e.z, e.b, fun j ds hj => ?_⟩
  by_cases z : i = j
  · subst z; exact nomatch get_set_eq hj
  · rw [List.getElem?_set_ne z] at hj ⊢
    exact e.o j ds hj
theorem EnB.weak (e : EnB K p Hd0 H0 Γ c σ Hd H) {i : Nat} : EnB K p Hd0 H0 (Γ.set i .any) c σ Hd H := by
  refine ⟨e.en.weak, e.d, e.z, e.b, fun j ds hj => ?_⟩
  by_cases z : i = j
  · subst z; exact nomatch get_set_eq hj
  · rw [List.getElem?_set_ne z] at hj
    exact e.o j ds hj
theorem EnB.wipe (e : EnB K p Hd0 H0 Γ c σ Hd H) : ∀ vs : List Nat, EnB K p Hd0 H0 (wipeG Γ vs) c (L2.wipe σ vs) Hd H
  | [] => e
  | v :: vs => by
    have h := EnB.wipe e vs
    refine ⟨h.en.forget, h.d, h.z, h.b, fun j ds hj => ?_⟩
    have hj' : ((wipeG Γ vs).set v .any)[j]? = some (G.own ds) := hj
    show ((L2.wipe σ vs).set v none)[j]? ≠ _
    by_cases z : v = j
    · subst z; exact nomatch get_set_eq hj'
    · rw [List.getElem?_set_ne z] at hj' ⊢
      exact h.o j ds hj'
theorem EnB.setOwn (e : EnB K p Hd0 H0 Γ c σ Hd H) {i : Nat} {a : Addr} {ws : List V} {ds : List PyData} (n0 : H0 a = none) (n1 : Hd a = none) (h : H a = some (.lst ws)) (hd : DtA K Hd ws ds) (hp : a ≠ p)
    (new : ∀ (j : Nat) (es : List PyData), Γ[j]? = some (G.own es) → σ[j]? ≠ some (some (V.ref a))) : EnB K p Hd0 H0 (Γ.set i (.own ds)) c (σ.set i (some (.ref a))) Hd H := by
  refine ⟨e.en.setOwn n0 n1 h hd new, e.d, e.z, e.b, fun j es hj => ?_⟩
  by_cases z : i = j
  · subst z
    have hi : i < σ.length := by
      have := (List.getElem?_eq_some_iff.mp hj).1
      rw [← e.en.l]
      simpa using this
    rw [List.getElem?_set_self hi]
    intro q
    exact hp (V.ref.inj (Option.some.inj (Option.some.inj q)))
  · rw [List.getElem?_set_ne z] at hj ⊢
    exact e.o j es hj
/-- an own list is changed -/
theorem EnB.change (e : EnB K p Hd0 H0 Γ c σ Hd H) {i : Nat} {a : Addr} {ds es : List PyData} {ws : List V} (hi : Γ[i]? = some (.own ds)) (hs : σ[i]? = some (some (.ref a))) (hw : DtA K Hd ws es) : EnB K p Hd0 H0 (Γ.set i (.own es)) c σ Hd (upd H a (.lst ws)) := by
  obtain ⟨b, vs, s1, n0, n1, h1, d1⟩ := e.en.own hi
  rw [hs] at s1
  cases s1
  have hap : a ≠ p := fun z => by subst z; exact e.o i ds hi hs
  refine ⟨⟨e.en.x.mut n0 n1, by simp [e.en.l], fun j g hg => ?_, fun j k fs gs w hjk g1 g2 => ?_⟩, e.d, e.z, ?_, fun j fs hj => ?_⟩
  · by_cases z : i = j
    · subst z
      have q := get_set_eq hg
      subst q
      exact ⟨a, ws, hs, n0, n1, upd_same, hw⟩
    · rw [List.getElem?_set_ne z] at hg
      have q := e.en.g j g hg
      cases g with
      | any => trivial
      | val v => exact q
      | dat d => exact q
      | own fs =>
        obtain ⟨b, us, k1, k0, k2, k3, k4⟩ := q
        have nb : b ≠ a := fun zb => by
          subst zb
          exact e.en.o i j ds fs _ z hi hg hs k1
        exact ⟨b, us, k1, k0, k2, by rw [upd_ne nb]; exact k3, k4⟩
  · have aux : ∀ (m : Nat) (l : List PyData), (Γ.set i (.own es))[m]? = some (G.own l) → ∃ l' : List PyData, Γ[m]? = some (G.own l') := fun m l hm => by
      by_cases z : i = m
      · subst z; exact ⟨_, hi⟩
      · rw [List.getElem?_set_ne z] at hm; exact ⟨_, hm⟩
    obtain ⟨l1, a1⟩ := aux j _ g1
    obtain ⟨l2, a2⟩ := aux k _ g2
    exact e.en.o j k l1 l2 w hjk a1 a2
  · obtain ⟨o, ho, hb⟩ := e.b
    exact ⟨o, by rw [upd_ne hap.symm]; exact ho, hb⟩
  · by_cases z : i = j
    · subst z; exact e.o i ds hi
    · rw [List.getElem?_set_ne z] at hj
      exact e.o j fs hj
end
section
variable (K : PySem.W.Frag) (p : Addr)
def GDB (g : TG) (Γ : List G) (d : PyData) (vs : List Nat) (Δ : List G) : Prop := ∀ Hd0 H0 c σ Hd H v, EnB K p Hd0 H0 Γ c σ Hd H → Dt K Hd v d → ∀ Q : L2.St → Hp → Prop, (∀ σ', EnB K p Hd0 H0 Δ c σ' Hd H → wipe σ' vs = wipe σ vs → Q σ' H) → g v σ H Q
/-- a statement that draws at most n times -/
def SB (ts : TS) (Γ : List G) (n : Nat) (On : List G → Prop) (Or : PyData → Prop) : Prop := ∀ Hd0 H0 c σ Hd H, EnB K p Hd0 H0 Γ c σ Hd H → c + n < 2 ^ 60 → ∀ D : Ends,
  (∀ Δ σ' Hd' H', On Δ → EnB K p Hd0 H0 Δ (c + n) σ' Hd' H' → Ex Hd Hd' → D.nx σ' H') → (∀ r v Hd' H', Or r → Ext Hd0 H0 Hd' H' → Hd' p = none → (∃ o, H' p = some o ∧ BoxO (c + n) o) → Dt K Hd' v r → D.rt v H') → ts D σ H
end
section
variable {K : PySem.W.Frag} {p : Addr} {Γ Δ : List G} {n m l : Nat} {ta tb te : TE} {tt : TT} {d x y : PyData} {ds : List PyData} {R R1 R2 : PyData → Prop} {g : TG} {vs : List Nat} {t u : TS} {On On1 : List G → Prop} {Or : PyData → Prop} {b : Bool}
theorem gdb_name {i : Nat} (h : i ∈ vs) : GDB K p (gName i) Γ d vs (Γ.set i (.dat d)) := fun _ _ c σ Hd H v e hd Q q => q _ (e.set hd) (wipe_set h)
theorem gdb_two {i j : Nat} (hi : i ∈ vs) (hj : j ∈ vs) : GDB K p (gTup K 2 (gCons (gName i) (gCons (gName j) gNil))) Γ (.tuple [x, y]) vs ((Γ.set i (.dat x)).set j (.dat y)) := fun _ _ c σ Hd H v e hd Q q => by
  cases hd with
  | tup h1 h2 =>
    cases h2 with
    | cons g1 h2 => cases h2 with
      | cons g2 h2 =>
        cases h2
        exact ⟨_, _, rfl, SqT.of (e.en.x.i _ _ h1), rfl, _, _, rfl, _, _, rfl, rfl, q _ ((e.set g1).set g2) ((wipe_set hj).trans (wipe_set hi))⟩
theorem SB.le (h : SB K p t Γ n On Or) (hn : n ≤ m) : SB K p t Γ m On Or := fun _ _ c σ Hd H e hc D q1 q2 =>
  h _ _ c σ Hd H e (by omega) D (fun Δ σ' Hd' H' o e' x => q1 Δ σ' Hd' H' o (e'.mono (by omega)) x) fun r v Hd' H' o x y ⟨b, hb, hb2⟩ dv => q2 r v Hd' H' o x y ⟨b, hb, hb2.mono (by omega)⟩ dv
theorem SB.imp {On' : List G → Prop} {Or' : PyData → Prop} (h : SB K p t Γ n On Or) (h1 : ∀ Δ, On Δ → On' Δ) (h2 : ∀ r, Or r → Or' r) : SB K p t Γ n On' Or' := fun _ _ c σ Hd H e hc D q1 q2 =>
  h _ _ c σ Hd H e hc D (fun Δ σ' Hd' H' o => q1 Δ σ' Hd' H' (h1 Δ o)) fun r v Hd' H' o => q2 r v Hd' H' (h2 r o)
theorem sb_seq (h : SB K p t Γ n On1 Or) (k : ∀ Δ, On1 Δ → SB K p u Δ m On Or) : SB K p (tSeq t u) Γ (n + m) On Or := fun _ _ c σ Hd H e hc D q1 q2 =>
  h _ _ c σ Hd H e (by omega) _ (fun Δ σ' Hd' H' o e' x => k Δ o _ _ _ σ' Hd' H' e' (by omega) D (fun Θ σ2 Hd2 H2 o2 e2 x2 => q1 Θ σ2 Hd2 H2 o2 (by have := e2; rw [Nat.add_assoc] at this; exact this) (x.trans x2)) fun r v Hd2 H2 o2 x2 y2 b2 dv => q2 r v Hd2 H2 o2 x2 y2 (by have := b2; rw [Nat.add_assoc] at this; exact this) dv)
    fun r v Hd' H' o x y ⟨b, hb, hb2⟩ dv => q2 r v Hd' H' o x y ⟨b, hb, hb2.mono (by omega)⟩ dv
theorem sb_set {i : Nat} (h : EB K p te Γ n R) : SB K p (tAsg te (gName i)) Γ n (fun Δ => ∃ d, R d ∧ Δ = Γ.set i (.dat d)) Or := fun _ _ c σ Hd H e hc D q1 _ =>
  h _ _ c σ Hd H e hc _ fun v r Hd1 H1 hr x1 e1 d1 => q1 _ _ Hd1 H1 ⟨r, hr, rfl⟩ (e1.set d1) x1.d
theorem sb_ret (h : EB K p te Γ n R) : SB K p (tRet te) Γ n On R := fun _ _ c σ Hd H e hc D _ q2 =>
  h _ _ c σ Hd H e hc _ fun v r Hd1 H1 hr x1 e1 d1 => q2 r v Hd1 H1 hr e1.en.x e1.d e1.b d1
theorem sb_own {i : Nat} (h : EF K te Γ ds) : SB K p (tAsg te (gName i)) Γ 0 (fun Δ => Δ = Γ.set i (.own ds)) Or := fun _ _ c σ Hd H e hc D q1 _ =>
  h _ _ σ Hd H e.en _ fun a ws Hd1 H1 x1 n1 n2 h1 d1 => by
    have e1 := e.ext x1
    have hap : a ≠ p := fun z => by
      subst z
      obtain ⟨o, ho, _⟩ := e.b
      rw [n1] at ho
      cases ho
    refine q1 _ _ Hd1 H1 rfl (e1.setOwn (Evl.fresh_back e.en.x.h n1) n2 h1 d1 hap fun j es hj hs => ?_) x1.d
    obtain ⟨b, vs, g1, _, _, g4, _⟩ := e.en.own hj
    rw [hs] at g1
    cases g1
    rw [n1] at g4
    cases g4
/-- name.append(e) of an own list -/
theorem sb_app {i : Nat} (hi : Γ[i]? = some (.own ds)) (h : EB K p te Γ n R) (hl : ds.length < 100000) : SB K p (tDrop (tBM K "list" rAppend (tVar i) (tCons te tNil))) Γ n (fun Δ => ∃ d, R d ∧ Δ = Γ.set i (.own (ds ++ [d]))) Or := fun _ _ c σ Hd H e hc D q1 _ => by
  obtain ⟨a, ws, s1, n0, n1, h1, d1⟩ := e.en.own hi
  refine ⟨_, s1, tyV_list h1, ?_⟩
  refine h _ _ c σ Hd H e hc _ fun v r Hd1 H1 hr x1 e1 dv => ?_
  obtain ⟨a', ws', s1', m0, m1, g1, t1⟩ := e1.en.own hi
  rw [s1] at s1'
  cases s1'
  exact ⟨a, ws', v, rfl, rfl, g1, Nat.lt_of_lt_of_le (by rw [t1.length]; exact hl) (by decide : 100000 ≤ sizeLine), q1 _ σ Hd1 _ ⟨r, hr, rfl⟩ (e1.change hi s1 (t1.append (.cons dv .nil))) x1.d⟩
theorem sb_if (h : ET K tt Γ b) (h1 : b = true → SB K p t Γ n On Or) (h2 : b = false → SB K p u Γ n On Or) : SB K p (tIfS tt t u) Γ n On Or := fun _ _ c σ Hd H e hc D q1 q2 =>
  h _ _ σ Hd H e.en _ fun Hd1 H1 x1 => by
    cases b with
    | true => exact iteT (h1 rfl _ _ c σ Hd1 H1 (e.ext x1) hc D (fun Δ σ' Hd' H' o e' y => q1 Δ σ' Hd' H' o e' (x1.d.trans y)) q2)
    | false => exact iteF (h2 rfl _ _ c σ Hd1 H1 (e.ext x1) hc D (fun Δ σ' Hd' H' o e' y => q1 Δ σ' Hd' H' o e' (x1.d.trans y)) q2)
theorem sb_next : SB K p tNext Γ 0 (fun Δ => Δ = Γ) Or := fun _ _ c σ Hd H e _ D q1 _ => q1 Γ σ Hd H rfl e (.refl _)
/-- an own list becomes data -/
theorem sb_freeze {i : Nat} (hi : Γ[i]? = some (.own ds)) (h : SB K p t (Γ.set i (.dat (.list ds))) n On Or) : SB K p t Γ n On Or := fun Hd0 H0 c σ Hd H e hc D q1 q2 => by
  obtain ⟨a, ws, s1, n0, n1, h1, d1⟩ := e.en.own hi
  have hap : a ≠ p := fun z => by subst z; exact e.o i ds hi s1
  have xe : Ext Hd0 H0 (upd Hd a (.lst ws)) H := e.en.x.take n0 n1 h1
  have en : En K Hd0 H0 (Γ.set i (.dat (.list ds))) σ (upd Hd a (.lst ws)) H := by
    refine ⟨xe, by simp [e.en.l], fun j g hg => ?_, fun j k fs es w hjk g1 g2 => ?_⟩
    · by_cases z : i = j
      · subst z
        have q := get_set_eq hg
        subst q
        exact ⟨_, s1, .lst upd_same (d1.mono (Ex.new n1))⟩
      · rw [List.getElem?_set_ne z] at hg
        have q := e.en.g j g hg
        cases g with
        | any => trivial
        | val v => exact q
        | dat d => obtain ⟨v, k1, k2⟩ := q; exact ⟨v, k1, k2.mono (Ex.new n1)⟩
        | own es =>
          obtain ⟨b, us, k1, k0, k2, k3, k4⟩ := q
          have nb : b ≠ a := fun zb => by
            subst zb
            exact e.en.o i j ds es _ z hi hg s1 k1
          exact ⟨b, us, k1, k0, by rw [upd_ne nb]; exact k2, k3, k4.mono (Ex.new n1)⟩
    · have nj : i ≠ j := fun z => by subst z; exact nomatch get_set_eq g1
      have nk : i ≠ k := fun z => by subst z; exact nomatch get_set_eq g2
      rw [List.getElem?_set_ne nj] at g1
      rw [List.getElem?_set_ne nk] at g2
      exact e.en.o j k fs es w hjk g1 g2
  refine h Hd0 H0 c σ _ H ⟨en, by rw [upd_ne hap.symm]; exact e.d, e.z, e.b, fun j fs hj => ?_⟩ hc D (fun Δ σ' Hd' H' o e' x => q1 Δ σ' Hd' H' o e' ((Ex.new n1).trans x)) q2
  by_cases z : i = j
  · subst z; exact nomatch get_set_eq hj
  · rw [List.getElem?_set_ne z] at hj
    exact e.o j fs hj
theorem EI.bb {wi : TI} (h : EI K wi Γ ds) : EIB K p wi Γ 0 (fun rs => rs = ds) := fun _ _ c σ Hd H e _ S q =>
  h _ _ σ Hd H e.en S fun J Hd1 H1 x1 ok => q J ds Hd1 H1 rfl x1.hidE (e.ext x1) ok
theorem eib_rng1 {ta : TA} {S : List PyData → Prop} {M : Nat} (h : EAB K p ta Γ n S) (hn : ∀ xs, S xs → ∃ k : Int, xs = [.int k] ∧ 0 ≤ k ∧ k ≤ M) (hM : M ≤ 100000) : EIB K p (iRng1 ta) Γ n (fun rs => rs.length ≤ M ∧ ∀ r ∈ rs, ∃ j : Nat, r = .int (j : Int)) := fun _ _ c σ Hd H e hc S' q =>
  h _ _ c σ Hd H e hc _ fun vs xs Hd1 H1 hx x1 e1 d1 => by
    obtain ⟨k, rfl, k0, k1⟩ := hn xs hx
    cases d1 with
    | cons d1 d2 =>
      cases d1
      cases d2
      refine ⟨k, rfl, by omega, by omega, q _ ((List.range k.toNat).map fun (j : Nat) => .int (j : Int)) Hd1 H1 ⟨by rw [List.length_map, List.length_range]; omega, fun r hr => ?_⟩ x1 e1 fun Hd' H' e1 e2 => ⟨by simp [Itr]; omega, fun i d hd => ?_⟩⟩
      · obtain ⟨j, _, rfl⟩ := List.mem_map.mp hr
        exact ⟨j, rfl⟩
      · rw [List.getElem?_map] at hd
        by_cases hi : i < k.toNat
        · rw [List.getElem?_range hi] at hd
          cases hd
          refine ⟨hi, fun x H'' ⟨eH, ex⟩ => ?_⟩
          subst eH ex
          refine ⟨Hd', .refl e2, ?_⟩
          rw [Int.zero_add]
          exact .int _
        · rw [List.getElem?_eq_none (by simpa using hi)] at hd
          cases hd
/-- a loop: Inv by the turn -/
theorem sb_for {wi : TI} {S : List PyData → Prop} {M : Nat} (Inv : Nat → List G → Prop) (hi : EIB K p wi Γ n S) (h0 : Inv 0 Γ)
    (hb : ∀ rs, S rs → rs.length ≤ M ∧ ∀ k r Θ, rs[k]? = some r → Inv k Θ → ∃ Δ vs, GDB K p g Θ r vs Δ ∧ SB K p t Δ m (Inv (k + 1)) Or) : SB K p (tFor wi g t) Γ (n + M * m) (fun Δ => ∃ rs, S rs ∧ Inv rs.length Δ) Or := fun Hd0 H0 c σ Hd H e hc D q1 q2 =>
  hi _ _ c σ Hd H e (by omega) _ fun J rs Hd1 H1 hS x1 e1 ok => by
    obtain ⟨hM, hb⟩ := hb rs hS
    have tot : ∀ k, k ≤ rs.length → c + n + k * m ≤ c + (n + M * m) := fun k hk => by
      have : k * m ≤ M * m := Nat.mul_le_mul_right _ (by omega)
      omega
    refine ⟨fun k j σ' H' => j = rs.length - k ∧ k ≤ rs.length ∧ ∃ Θ Hd', Inv k Θ ∧ Ex Hd1 Hd' ∧ EnB K p Hd0 H0 Θ (c + n + k * m) σ' Hd' H', ⟨rs.length, rfl, Nat.zero_le _, Γ, Hd1, h0, .refl _, by rw [Nat.zero_mul]; exact e1⟩, ?_⟩
    rintro k j σ' H' ⟨rfl, hk, Θ, Hd', inv, xd, en⟩
    obtain ⟨st, go⟩ := ok Hd' H' xd en.en.x.i
    by_cases hlt : k < rs.length
    · have hd : rs[k]? = some rs[k] := by simp [hlt]
      obtain ⟨gi, yl⟩ := go k _ hd
      have em : c + n + k * m + m = c + n + (k + 1) * m := by rw [Nat.succ_mul]; omega
      have t1 := tot (k + 1) hlt
      refine .inr ⟨gi, fun σ'' H'' => ∃ Θ Hd'', Inv (k + 1) Θ ∧ Ex Hd1 Hd'' ∧ EnB K p Hd0 H0 Θ (c + n + (k + 1) * m) σ'' Hd'' H'', fun σ'' H'' w => ⟨rs.length - (k + 1), by omega, rfl, hlt, w⟩, fun x H2 y2 => ?_⟩
      obtain ⟨Hd2, x2, d2⟩ := yl x H2 y2
      obtain ⟨Δ, vs, hg, hs⟩ := hb k _ Θ hd inv
      refine hg _ _ _ σ' Hd2 H2 x (en.ext x2) d2 _ fun σ2 e2 _ => hs _ _ _ σ2 Hd2 H2 e2 (by omega) _ (fun Θ' σ3 Hd3 H3 o3 e3 x3 => ⟨Θ', Hd3, o3, xd.trans (x2.d.trans x3), by rw [← em]; exact e3⟩) fun r v Hd3 H3 o3 x3 y3 ⟨b, hb, hb2⟩ dv => q2 r v Hd3 H3 o3 x3 y3 ⟨b, hb, hb2.mono (by omega)⟩ dv
    · have ek : k = rs.length := by omega
      subst ek
      have t1 := tot rs.length (Nat.le_refl _)
      exact .inl ⟨st, q1 Θ σ' Hd' H' ⟨rs, hS, inv⟩ (en.mono t1) (x1.d.trans xd)⟩
/-- a comprehension without a test -/
theorem eb_lc {wi : TI} {S : List PyData → Prop} {M : Nat} {Re : PyData → PyData → Prop} (hi : EIB K p wi Γ n S)
    (ht : ∀ rs, S rs → rs.length ≤ M ∧ ∀ r ∈ rs, ∃ Δ, GDB K p g (wipeG Γ vs) r vs Δ ∧ EB K p te Δ m (Re r)) (hM : M ≤ 100000) : EB K p (tLc wi g tYes te vs) Γ (n + M * m) (fun r => ∃ rs qs, r = .list qs ∧ S rs ∧ Paired Re rs qs) := fun Hd0 H0 c σ Hd H e hc Q q =>
  hi _ _ c σ Hd H e (by omega) _ fun J rs Hd1 H1 hS x1 e1 ok D hD => by
    obtain ⟨hMl, ht⟩ := ht rs hS
    have nD : H D = none := by
      cases z : H D with
      | none => rfl
      | some o =>
        by_cases zp : D = p
        · subst zp
          obtain ⟨o', ho', _⟩ := e1.b
          rw [hD] at ho'
          cases ho'
        · have := x1.h D o (by rw [hid_ne zp]; exact z)
          rw [hD] at this
          cases this
    have nDp : D ≠ p := fun z => by
      subst z
      obtain ⟨o', ho', _⟩ := e1.b
      rw [hD] at ho'
      cases ho'
    have nD1 : Hd1 D = none := Evl.fresh_back x1.i hD
    have tot : ∀ k, k ≤ rs.length → c + n + k * m ≤ c + (n + M * m) := fun k hk => by
      have : k * m ≤ M * m := Nat.mul_le_mul_right _ (by omega)
      omega
    have mutD : ∀ {k : Nat} {Hd2 G2 : Hp} {o : HO}, EnB K p Hd0 H0 Γ k σ Hd2 G2 → Ext Hd (hid p H) Hd2 G2 → Hd2 D = none → EnB K p Hd0 H0 Γ k σ Hd2 (upd G2 D o) ∧ Ext Hd (hid p H) Hd2 (upd G2 D o) := fun {k Hd2 G2 o} e2 x2 n2 => by
      have hid0 : hid p H D = none := by rw [hid_ne nDp]; exact nD
      have x3 := x2.mut (o := o) hid0 n2
      obtain ⟨bo, hbo, hbb⟩ := e2.b
      exact ⟨e.draw x3 e2.d ⟨bo, by rw [upd_ne nDp.symm]; exact hbo, hbb⟩, x3⟩
    obtain ⟨e10, x10⟩ := mutD (o := .lst []) e1 x1 nD1
    refine ⟨fun i j G => j = rs.length - i ∧ i ≤ rs.length ∧ ∃ Hd2 acc qs, Ex Hd1 Hd2 ∧ Ext Hd (hid p H) Hd2 G ∧ EnB K p Hd0 H0 Γ (c + n + i * m) σ Hd2 G ∧ Hd2 D = none ∧ G D = some (.lst acc) ∧ DtA K Hd2 acc qs ∧ Paired Re (rs.take i) qs,
      ⟨rs.length, rfl, Nat.zero_le _, Hd1, [], [], .refl _, x10, by rw [Nat.zero_mul]; exact e10, nD1, upd_same, .nil, by rw [List.take_zero]; exact .nil⟩, ?_⟩
    rintro i j G ⟨rfl, hle, Hd2, acc, qs, xd, x2, e2, n2, a2, t2, p2⟩
    obtain ⟨st, go⟩ := ok Hd2 G xd x2.i
    by_cases hlt : i < rs.length
    · have hd : rs[i]? = some rs[i] := by simp [hlt]
      obtain ⟨gi, yl⟩ := go i _ hd
      have em : c + n + i * m + m = c + n + (i + 1) * m := by rw [Nat.succ_mul]; omega
      have t1 := tot (i + 1) hlt
      refine .inr ⟨gi, fun G' => ∃ Hd2 acc qs, Ex Hd1 Hd2 ∧ Ext Hd (hid p H) Hd2 G' ∧ EnB K p Hd0 H0 Γ (c + n + (i + 1) * m) σ Hd2 G' ∧ Hd2 D = none ∧ G' D = some (.lst acc) ∧ DtA K Hd2 acc qs ∧ Paired Re (rs.take (i + 1)) qs, fun G' w => ⟨rs.length - (i + 1), by omega, rfl, hlt, w⟩, fun x H3 y3 => ?_⟩
      obtain ⟨Hd3, x3, d3⟩ := yl x H3 y3
      obtain ⟨Δ, hg, hte⟩ := ht _ (List.getElem_mem hlt)
      have n3 : Hd3 D = none := x3.f _ _ n2 a2
      have a3 := x3.h _ _ a2
      refine hg _ _ _ _ Hd3 H3 x ((e2.ext x3).wipe vs) d3 _ fun σ2 e3 w2 => ⟨w2.trans (wipe_wipe fun _ z => z), ?_⟩
      show te σ2 H3 _
      refine hte _ _ _ σ2 Hd3 H3 e3 (by omega) _ fun v r Hd4 H4 hr x4 e4 d4 => ?_
      have a4 : H4 D = some (.lst acc) := x4.h _ _ (by rw [hid_ne nDp]; exact a3)
      have n4 : Hd4 D = none := x4.f _ _ n3 (by rw [hid_ne nDp]; exact a3)
      have l4 : acc.length < sizeLine := by
        have l0 := t2.length
        have l1 := p2.length
        rw [List.length_take] at l1
        have l2 : acc.length < 100000 := by omega
        exact Nat.lt_of_lt_of_le l2 (by decide)
      have xT : Ext Hd (hid p H) Hd4 H4 := (x2.hid2 x3.hidE).hid2 x4
      have eT : EnB K p Hd0 H0 Γ (c + n + (i + 1) * m) σ Hd4 H4 := e.draw xT e4.d (by rw [← em]; exact e4.b)
      obtain ⟨eD, xD⟩ := mutD (o := .lst (acc ++ [v])) eT xT n4
      refine ⟨acc, a4, l4, Hd4, _, qs ++ [r], xd.trans (x3.d.trans x4.d), xD, eD, n4, upd_same, (t2.mono (x3.d.trans x4.d)).append (.cons d4 .nil), ?_⟩
      rw [List.take_add_one, hd]
      exact p2.snoc hr
    · have ei : i = rs.length := by omega
      subst ei
      rw [List.take_length] at p2
      have t1 := tot rs.length (Nat.le_refl _)
      refine .inl ⟨st, ?_⟩
      have hid0 : hid p H D = none := by rw [hid_ne nDp]; exact nD
      have xF := x2.take hid0 n2 a2
      have eF : EnB K p Hd0 H0 Γ (c + (n + M * m)) σ (upd Hd2 D (.lst acc)) G := (e.draw xF (by rw [upd_ne nDp.symm]; exact e2.d) e2.b).mono t1
      exact q (.ref D) (.list qs) _ G ⟨rs, qs, rfl, hS, p2⟩ xF eF (.lst upd_same (t2.mono (Ex.new n2)))
end
end DL

namespace DL
open PySem PySem.Spec PyProof.Rows L2
open Evl (Ex)
open RZ
/-! ### sorted(xs), xs a list of pairs of texts: a new list of the same pairs, in some order -/
def rSortedTS (K : PySem.W.Frag) : List V → Hp → VK → Prop := fun vs H Q => ∃ a xs, vs = [V.ref a] ∧ SqL K H a xs ∧ (∀ x ∈ xs, ∃ t i j, x = V.ref t ∧ H t = some (.tup [.str i, .str j])) ∧
  ∀ (zs : List V) (l : Addr), zs.Perm xs → H l = none → Q (.ref l) (upd H l (.lst zs))
theorem tups_of {h : Heap} {sh : Nat → Bool} : ∀ {vs : List Value}, (∀ v ∈ vs, ∃ f, PyProof.Rows.TupOf h sh v f) → ∃ kinds, PyProof.Rows.TupsOf h sh vs kinds
  | [], _ => ⟨[], .nil⟩
  | v :: vs, hv => by
    obtain ⟨f, hf⟩ := hv v List.mem_cons_self
    obtain ⟨kinds, hfs⟩ := tups_of fun u hu => hv u (List.mem_cons_of_mem _ hu)
    exact ⟨f :: kinds, .cons hf hfs⟩
theorem cr_sortedTS {X : Cx} (K : PySem.W.Frag) (hK : X.K = K := by rfl) : CallR X (.builtin "sorted") (rSortedTS K) := by
  subst hK
  intro pins s σ H vs us Q I r hq
  obtain ⟨a, xs, rfl, hs, allp, q⟩ := hq
  obtain ⟨raw, rel, isl, room⟩ := I.list hs
  obtain ⟨u, rfl, same⟩ := vals1 r
  have eu : u = Value.ref a := same
  subst eu
  obtain ⟨e1, e2⟩ := refs_back rel fun x m => by
    obtain ⟨t, _, _, e, _⟩ := allp x m
    exact ⟨t, e⟩
  have tk : ∀ v ∈ raw, ∃ t o x1 t1 x2 t2 n, v = Value.ref t ∧ s.heap.get? t = some o ∧ o.cls = .type "tuple" ∧ o.data = .seq #[.str x1 t1, .str x2 t2] n := fun v hv => by
    obtain ⟨t, rfl⟩ := e2 v hv
    have mem : V.ref t ∈ xs := by rw [e1]; exact List.mem_map.mpr ⟨_, hv, rfl⟩
    obtain ⟨t', i, j, e, ht⟩ := allp _ mem
    cases e
    obtain ⟨_, its2, r2, o, ho, hc, n, hd⟩ := I.hok _ _ ht
    obtain ⟨u1, u2, rfl, ri, rj⟩ := vals2 r2
    obtain ⟨t1, rfl⟩ := ri
    obtain ⟨t2, rfl⟩ := rj
    exact ⟨t, o, i, t1, j, t2, n, rfl, ho, hc, hd⟩
  obtain ⟨kinds, hfs⟩ := tups_of (h := s.heap) (sh := fun _ => true) (vs := raw) fun v hv => by
    obtain ⟨t, o, x1, t1, x2, t2, n, rfl, ho, hc, hd⟩ := tk v hv
    exact ⟨.str x1 t1, t, o, _, n, rfl, ho, hc, hd, rfl, fun z => (nomatch z), fun _ => ⟨x1, t1, rfl⟩⟩
  refine PyProof.Rows.G.sorted_tups (shape := fun _ => true) (fs := kinds) isl.isList hfs (fun v hv => ?_) (by rw [← rel.length]; exact room) fun st' hp _ _ => ?_
  · obtain ⟨t, o, x1, t1, x2, t2, n, rfl, ho, hc, hd⟩ := tk v hv
    obtain ⟨oc, od, dt, sl⟩ := o
    simp only at hc hd
    subst hc hd
    refine ⟨[Sum.inr x1.cps.toList, Sum.inr x2.cps.toList], ?_⟩
    unfold PyProof.Rows.G.tupKeyC
    rw [if_pos (by simp [PyProof.Rows.G.isTupObj, ho])]
    unfold PyProof.Rows.tupKey
    simp only [ho]
    rfl
  · have hperm : ((arrOf st').map (·.2)).toList.Perm raw := by
      have h1 : (arrOf st').toList.Perm (raw.zip raw) := by
        have := Array.perm_iff_toList_perm.mp hp
        rw [pairsOf_toList] at this
        exact this
      have h2 := h1.map (·.2)
      have h3 : (raw.zip raw).map (·.2) = raw := by
        rw [List.map_snd_zip (by omega)]
      rw [h3] at h2
      simpa using h2
    have h3 : ∀ u ∈ ((arrOf st').map (·.2)).toList, ∃ a, u = Value.ref a := fun u hu => e2 u (hperm.mem_iff.mp hu)
    obtain ⟨ep, he'⟩ := PyProof.Rows.sortedAll_at s.heap raw ((arrOf st').map (·.2))
    refine ⟨.ref (s.heap.objs.size + 1), upd H (s.heap.objs.size + 1) (.lst (((arrOf st').map (·.2)).toList.map backV)), I.laid (t' := s.toks) (fun _ _ => PyProof.Rows.sortedAll_old) (Nat.le_succ _) ⟨?_, ((arrOf st').map (·.2)).toList, ep, vals_back h3, by rw [Array.toArray_toList]; exact he'⟩, rfl, q _ _ ?_ (I.hok.fresh (Nat.le_succ _))⟩
    · rw [List.length_map, hperm.length_eq, ← rel.length]
      exact room
    · rw [e1]
      exact hperm.map backV
end DL

namespace DL
open PySem PySem.Spec PyProof.Rows L2
open Evl (Ex)
open RZ
/-! ### the same with lists for tuples -/
mutual
def softD : PyData → PyData
  | .list xs => .list (softA xs)
  | .tuple xs => .list (softA xs)
  | .none => .none
  | .bool b => .bool b
  | .int i => .int i
  | .str s => .str s
  | .dict kvs => .dict kvs
def softA : List PyData → List PyData
  | [] => []
  | x :: xs => softD x :: softA xs
end
theorem softA_map : ∀ xs : List PyData, softA xs = xs.map softD
  | [] => rfl
  | x :: xs => by
    show softD x :: softA xs = _
    rw [softA_map xs]
    rfl
def domLists (n : Nat) : List PyData → PyData → Prop := fun ds r => ∃ d, ds = [d] ∧ d.depth < n ∧ fine d = true ∧ r = softD d
/-! ### CHARTS as the law draws them -/
def pairM (p : Str × Str) : PyData := .tuple [.str p.1, .str p.2]
def stD (p : Str × PyData) : PyData := .tuple [.str p.1, p.2]
def webD (wide : List PyData) (nws : List (Str × PyData)) (ms : List (Str × Str)) : PyData := .tuple [.tuple wide, .tuple (nws.map stD), .tuple (ms.map pairM)]
structure WebOk (wide : List PyData) (nws : List (Str × PyData)) (ms : List (Str × Str)) : Prop where
  nd : (nws.map (·.1)).Nodup
  mem : ∀ p ∈ ms, p.1 ∈ nws.map (·.1) ∧ p.2 ∈ nws.map (·.1)
  nl : nws.length ≤ 1000
  n1 : 1 ≤ nws.length
  ml : ms.length ≤ 31
  ok : ∀ p ∈ nws, PyData.strOk p.1 = true
  fn : fine (webD wide nws ms) = true
  dp : (webD wide nws ms).depth ≤ 5
theorem paired_map {α β γ : Type} {F : β → γ → Prop} {f : α → β} {g : α → γ} (h : ∀ a, F (f a) (g a)) : ∀ l : List α, Paired F (l.map f) (l.map g)
  | [] => .nil
  | a :: l => .cons (h a) (paired_map h l)
theorem WebOk.chart {wide : List PyData} {nws : List (Str × PyData)} {ms : List (Str × Str)} (h : WebOk wide nws ms) : ChartIs (webD wide nws ms) (nws.map (·.1)) ms := by
  refine ⟨⟨_, _, _, _, _, rfl, rfl, rfl, paired_map (fun p => ⟨p.2, rfl⟩) nws, ?_⟩, h.nd, h.mem, by rw [List.length_map]; exact h.nl, h.ml⟩
  have := paired_map (F := fun e (p : Str × Str) => seqOf e = some [.str p.1, .str p.2]) (f := pairM) (g := fun p => p) (fun p => rfl) ms
  rw [List.map_id'] at this
  exact this
theorem soft_web (wide : List PyData) (nws : List (Str × PyData)) (ms : List (Str × Str)) :
    softD (webD wide nws ms) = .list [.list (wide.map softD), .list (nws.map fun p => .list [.str p.1, softD p.2]), .list (ms.map fun p => .list [.str p.1, .str p.2])] := by
  show PyData.list [.list (softA wide), .list (softA (nws.map stD)), .list (softA (ms.map pairM))] = _
  rw [softA_map, softA_map, softA_map, List.map_map, List.map_map]
  rfl
theorem WebOk.soft {wide : List PyData} {nws : List (Str × PyData)} {ms : List (Str × Str)} (h : WebOk wide nws ms) : ChartIs (softD (webD wide nws ms)) (nws.map (·.1)) ms := by
  rw [soft_web]
  refine ⟨⟨_, _, _, _, _, rfl, rfl, rfl, paired_map (fun p => ⟨softD p.2, rfl⟩) nws, ?_⟩, h.nd, h.mem, by rw [List.length_map]; exact h.nl, h.ml⟩
  have := paired_map (F := fun e (p : Str × Str) => seqOf e = some [.str p.1, .str p.2]) (f := fun p => .list [.str p.1, .str p.2]) (g := fun p => p) (fun p => rfl) ms
  rw [List.map_id'] at this
  exact this
/-! ### the law's own neighbours, its own look at walks -/
def nearW (ms : List (Str × Str)) (t : Str) : List Str := (ms.filter fun p => decide (p.1 = t)).map (·.2) ++ (ms.filter fun p => decide (p.2 = t)).map (·.1)
theorem nearW_mem {ms : List (Str × Str)} {n x : Str} : x ∈ nearW ms n ↔ (n, x) ∈ ms ∨ (x, n) ∈ ms := by
  unfold nearW
  rw [List.mem_append, List.mem_map, List.mem_map]
  constructor
  · rintro (⟨⟨a, b⟩, h, rfl⟩ | ⟨⟨a, b⟩, h, rfl⟩)
    · obtain ⟨h1, h2⟩ := List.mem_filter.mp h
      have := of_decide_eq_true h2
      simp only at this
      subst this
      exact .inl h1
    · obtain ⟨h1, h2⟩ := List.mem_filter.mp h
      have := of_decide_eq_true h2
      simp only at this
      subst this
      exact .inr h1
  · rintro (h | h)
    · exact .inl ⟨_, List.mem_filter.mpr ⟨h, decide_eq_true rfl⟩, rfl⟩
    · exact .inr ⟨_, List.mem_filter.mpr ⟨h, decide_eq_true rfl⟩, rfl⟩
theorem nearW_len (ms : List (Str × Str)) (t : Str) : (nearW ms t).length ≤ 2 * ms.length := by
  unfold nearW
  rw [List.length_append, List.length_map, List.length_map]
  have := List.length_filter_le (fun p : Str × Str => decide (p.1 = t)) ms
  have := List.length_filter_le (fun p : Str × Str => decide (p.2 = t)) ms
  omega
def domNearW : List PyData → PyData → Prop := fun ds r => ∃ wide nws ms t, ds = [webD wide nws ms, .str t] ∧ WebOk wide nws ms ∧ PyData.strOk t = true ∧ r = .list ((sortS (nearW ms t)).map PyData.str)
def domTags : List PyData → PyData → Prop := fun ds r => ∃ wide nws ms, ds = [webD wide nws ms] ∧ WebOk wide nws ms ∧ r = .list ((nws.map (·.1)).map PyData.str)
def domPath : List PyData → PyData → Prop := fun ds r => ∃ wide nws ms th, ds = [webD wide nws ms, th] ∧ WebOk wide nws ms ∧ fine th = true ∧ r = .bool (isWalkB (nws.map (·.1)) ms th)
def fstIs (t : Str) : PyData → Bool
  | .tuple [.str a, _] => decide (a = t)
  | _ => false
def sndIs (t : Str) : PyData → Bool
  | .tuple [_, .str b] => decide (b = t)
  | _ => false
def fstD : PyData → PyData
  | .tuple [x, _] => x
  | _ => .none
def sndD : PyData → PyData
  | .tuple [_, y] => y
  | _ => .none
theorem found_eq (ms : List (Str × Str)) (t : Str) : ((ms.map pairM).filter (fstIs t)).map sndD = ((ms.filter fun p => decide (p.1 = t)).map (·.2)).map PyData.str := by
  rw [List.filter_map, List.map_map, List.map_map]
  rfl
theorem found_eq2 (ms : List (Str × Str)) (t : Str) : ((ms.map pairM).filter (sndIs t)).map fstD = ((ms.filter fun p => decide (p.2 = t)).map (·.1)).map PyData.str := by
  rw [List.filter_map, List.map_map, List.map_map]
  rfl
theorem WebOk.str {wide : List PyData} {nws : List (Str × PyData)} {ms : List (Str × Str)} (h : WebOk wide nws ms) {s : Str} (hs : s ∈ nws.map (·.1)) : PyData.strOk s = true := by
  obtain ⟨p, hp, rfl⟩ := List.mem_map.mp hs
  exact h.ok p hp
section
variable {K : PySem.W.Frag} {Γ : List G} {te : TE} {xs : List PyData}
theorem fine_str {s : Str} (h : PyData.strOk s = true) : SeqAt.shaped (.str s) = true := by
  unfold SeqAt.shaped
  simp [PyData.canLay0, PyData.depth, h]
theorem rd_eqS {a b : Str} (h1 : PyData.strOk a = true) (h2 : PyData.strOk b = true) : RD K (rEqD K) (.str a) (.str b) (.bool (decide (a = b))) := by
  have h := rd_eqD (K := K) (x := .str a) (y := .str b) (fine_str h1) (fine_str h2)
  have e : PyData.eqv (.str a) (.str b) = decide (a = b) := by simp only [PyData.eqv]; rfl
  rw [e] at h
  exact h
theorem canLay_all : ∀ {xs : List PyData}, (∀ x ∈ xs, fine x = true ∧ x.depth ≤ 63) → PyData.canLayAll0 xs = true ∧ PyData.depthAll xs ≤ 63 ∧ shortA xs = true
  | [], _ => ⟨rfl, by simp [PyData.depthAll], rfl⟩
  | x :: xs, h => by
    obtain ⟨a, b, c⟩ := canLay_all fun y hy => h y (List.mem_cons_of_mem _ hy)
    obtain ⟨f, d⟩ := h x List.mem_cons_self
    obtain ⟨f1, f2⟩ := Bool.and_eq_true_iff.mp f
    refine ⟨?_, ?_, ?_⟩
    · simp only [PyData.canLayAll0, Bool.and_eq_true]
      exact ⟨SeqAt.canLay_of_shaped f1, a⟩
    · simp only [PyData.depthAll]; omega
    · simp only [shortA, Bool.and_eq_true]
      exact ⟨f2, c⟩
theorem fine_mk_list {xs : List PyData} (hl : xs.length ≤ 100000) (h : ∀ x ∈ xs, fine x = true ∧ x.depth ≤ 63) : fine (.list xs) = true := by
  obtain ⟨a, b, c⟩ := canLay_all h
  unfold fine SeqAt.shaped
  simp only [PyData.canLay0, PyData.depth, shortD, Bool.and_eq_true, decide_eq_true_eq]
  exact ⟨⟨a, decide_eq_true (by omega)⟩, hl, c⟩
theorem fine_mk_tup {xs : List PyData} (hl : xs.length ≤ 100000) (h : ∀ x ∈ xs, fine x = true ∧ x.depth ≤ 63) : fine (.tuple xs) = true := by
  obtain ⟨a, b, c⟩ := canLay_all h
  unfold fine SeqAt.shaped
  simp only [PyData.canLay0, PyData.depth, shortD, Bool.and_eq_true, decide_eq_true_eq]
  exact ⟨⟨a, decide_eq_true (by omega)⟩, hl, c⟩
theorem depth_list {xs : List PyData} {n : Nat} (h : ∀ x ∈ xs, x.depth ≤ n) : (PyData.list xs).depth ≤ n + 1 := by
  have : PyData.depthAll xs ≤ n := by
    induction xs with
    | nil => simp [PyData.depthAll]
    | cons x r ih =>
      simp only [PyData.depthAll]
      have := h x List.mem_cons_self
      have := ih fun y hy => h y (List.mem_cons_of_mem _ hy)
      omega
  simp only [PyData.depth]
  omega
theorem depth_tup {xs : List PyData} {n : Nat} (h : ∀ x ∈ xs, x.depth ≤ n) : (PyData.tuple xs).depth ≤ n + 1 := by
  have := depth_list h
  simp only [PyData.depth] at this ⊢
  exact this
theorem fine_depth {d : PyData} (h : fine d = true) : d.depth ≤ 64 := SeqAt.depth_of_shaped (fine_shaped h)
theorem fine_atom_str {s : Str} (h : PyData.strOk s = true) : fine (.str s) = true := by
  unfold fine
  rw [fine_str h]
  rfl
/-- x == [], x != [] of a list -/
theorem rd_eqNil (h : SeqAt.shaped (.list xs) = true) : RD K (rEqD K) (.list xs) (.list []) (.bool xs.isEmpty) := by
  have q := rd_eqD (K := K) (x := .list xs) (y := .list []) h rfl
  have e : PyData.eqv (.list xs) (.list []) = xs.isEmpty := by cases xs <;> simp [PyData.eqv, PyData.eqvAll]
  rw [e] at q
  exact q
theorem rd_neNil (h : SeqAt.shaped (.list xs) = true) : RD K (rNeD K) (.list xs) (.list []) (.bool (!xs.isEmpty)) := by
  have q := rd_neD (K := K) (x := .list xs) (y := .list []) h rfl
  have e : PyData.eqv (.list xs) (.list []) = xs.isEmpty := by cases xs <;> simp [PyData.eqv, PyData.eqvAll]
  rw [e] at q
  exact q
end
theorem filter_empty {α : Type} {p : α → Bool} {xs : List α} : (xs.filter p).isEmpty = !xs.any p := by
  induction xs with
  | nil => rfl
  | cons x r ih =>
    rw [List.filter_cons, List.any_cons]
    by_cases h : p x = true
    · rw [if_pos h, h]; rfl
    · rw [if_neg h, ih]
      simp [h]
/-- the range form of a walk's steps -/
def badK (ms : List (Str × Str)) (xs : List PyData) : PyData → Bool
  | .int k => match xs[k.toNat]?, xs[k.toNat + 1]? with
    | some a, some b => !stepOk ms a b
    | _, _ => false
  | _ => false
theorem range_zip (ms : List (Str × Str)) (xs : List PyData) : ((List.range (xs.length - 1)).map fun (k : Nat) => PyData.int (k : Int)).any (badK ms xs) = !((xs.zip (xs.drop 1)).all fun p => stepOk ms p.1 p.2) := by
  rw [List.any_eq_not_all_not]
  congr 1
  rw [Bool.eq_iff_iff, List.all_eq_true, List.all_eq_true]
  constructor
  · rintro h ⟨a, b⟩ hm
    obtain ⟨k, hk⟩ := List.getElem?_of_mem hm
    rw [List.getElem?_zip_eq_some] at hk
    obtain ⟨h1, h2⟩ := hk
    simp only at h1 h2
    rw [List.getElem?_drop] at h2
    have hl := (List.getElem?_eq_some_iff.mp h2).1
    have := h (.int (k : Int)) (List.mem_map.mpr ⟨k, List.mem_range.mpr (by omega), rfl⟩)
    have e : k + 1 = 1 + k := by omega
    simp only [badK, Int.toNat_natCast, e, h1, h2, Bool.not_not] at this
    exact this
  · rintro h x hx
    obtain ⟨k, hk, rfl⟩ := List.mem_map.mp hx
    have hk' := List.mem_range.mp hk
    have g1 : xs[k]? = some xs[k] := by simp
    have g2 : xs[k + 1]? = some xs[k + 1] := by simp
    have := h (xs[k], xs[k + 1]) (List.mem_iff_getElem?.mpr ⟨k, by rw [List.getElem?_zip_eq_some]; exact ⟨g1, by rw [List.getElem?_drop, Nat.add_comm]; exact g2⟩⟩)
    simp only [badK, Int.toNat_natCast, g1, g2, Bool.not_not]
    exact this
end DL

namespace DL
open PySem PySem.Spec PyProof.Rows L2
open Evl (Ex)
open RZ
theorem DtA.erase {K : PySem.W.Frag} {H : Hp} {vs : List V} {ds : List PyData} (h : DtA K H vs ds) (k : Nat) : DtA K H (vs.eraseIdx k) (ds.eraseIdx k) := by
  rw [List.eraseIdx_eq_take_drop_succ, List.eraseIdx_eq_take_drop_succ]
  exact (h.take k).append (h.drop (k + 1))
theorem lookup_in {env : Env} {y : Str} : ∀ {names : List (Str × NameKind)}, names.lookup y = some .cell ∨ names.lookup y = some .free →
    (names.map fun (n, k) => if (k == NameKind.free && env.scope.kind == .function && env.kindOf n == some .cell) then (n, NameKind.cell) else (n, k)).lookup y = some .cell ∨ (names.map fun (n, k) => if (k == NameKind.free && env.scope.kind == .function && env.kindOf n == some .cell) then (n, NameKind.cell) else (n, k)).lookup y = some .free
  | [], h => by rcases h with h | h <;> cases h
  | (n, k) :: r, h => by
    have ih := @lookup_in env y r
    rw [List.map_cons]
    cases hx : y == n with
    | true =>
      simp only [List.lookup_cons, hx] at h
      by_cases c : (k == NameKind.free && env.scope.kind == .function && env.kindOf n == some .cell) = true
      · simp only [c, if_true, List.lookup_cons, hx]
        exact .inl trivial
      · simp only [c, List.lookup_cons, hx]
        simpa [List.lookup_cons, hx] using h
    | false =>
      simp only [List.lookup_cons, hx] at h
      by_cases c : (k == NameKind.free && env.scope.kind == .function && env.kindOf n == some .cell) = true
      · simp only [c, if_true, List.lookup_cons, hx]
        exact ih h
      · simp only [c, List.lookup_cons, hx]
        simpa [List.lookup_cons, hx] using ih h
/-- a comprehension in a comprehension -/
theorem blkOk_in {N : List Str} {sc scope : Scope} {cl : List (Str × Addr)} {C : Addr} {env : Env} {own : List (Str × Nat)} (h : blkC N sc scope own = true) : BlkOk N (compEnvC sc cl C env).scope scope own :=
  let b := blkOk_by h
  ⟨b.kind, b.uniq, b.ix, fun y hy e => lookup_in (b.free y hy e), b.own⟩
/-! ### a def that draws: its source first, then data; before: what is asked of the data; after: data and answer -/
def spB (K : PySem.W.Frag) (ar m : Nat) (pre : List PyData → Prop) (dom : List PyData → PyData → Prop) : Sp := fun vs H Q _ => vs.length = ar + 1 ∧ ∃ p c Hd ds o ws, vs = .ref p :: ws ∧ Ex Hd H ∧ Hd p = none ∧ H p = some o ∧ BoxO c o ∧ c + m < 2 ^ 60 ∧ DtA K Hd ws ds ∧ pre ds ∧
  ∀ v r Hd' H', dom ds r → Ext Hd (hid p H) Hd' H' → Hd' p = none → (∃ o, H' p = some o ∧ BoxO (c + m) o) → Dt K Hd' v r → Q v H'
def startB (N : List Str) (p : Addr) (ds : List PyData) : List G := .val (.ref p) :: (ds.map G.dat ++ List.replicate (N.length - 1 - ds.length) .any)
section
variable {K : PySem.W.Frag} {p : Addr} {Γ Δ : List G} {n m l : Nat} {ta tb te : TE} {tt : TT} {d x y : PyData} {ds : List PyData} {R R1 R2 : PyData → Prop} {g : TG} {vs : List Nat} {t u : TS} {On On1 : List G → Prop} {Or : PyData → Prop} {b : Bool}
theorem eb_callB {E : XK} {tr : TA} {i ar : Nat} {S : List PyData → Prop} {pre : List PyData → Prop} {dom : List PyData → PyData → Prop} (hi : Γ[i]? = some (.val (.ref p))) (h : EAB K p tr Γ n S) (hs : ∀ xs, S xs → xs.length = ar ∧ pre xs) :
    EB K p (tCall (spB K ar m pre dom) [] E (tCons (tVar i) tr)) Γ (n + m) (fun r => ∃ xs, S xs ∧ dom xs r) := fun _ _ c σ Hd H e hc Q q =>
  ⟨_, e.en.g i _ hi, h _ _ c σ Hd H e (by omega) _ fun ws xs Hd1 H1 hx x1 e1 d1 => by
    obtain ⟨hl, hp⟩ := hs xs hx
    obtain ⟨o, ho, hb⟩ := e1.b
    refine ⟨by rw [List.append_nil, List.length_cons, d1.length, hl], p, c + n, Hd1, xs, o, ws, List.append_nil _, e1.en.x.i, e1.d, ho, hb, by omega, d1, hp, fun v r Hd' H' hr x2 k2 b2 dv => ?_⟩
    exact q v r Hd' H' ⟨xs, hx, hr⟩ (x1.hid2 x2) (by have := e1.draw x2 k2 b2; rw [Nat.add_assoc] at this; exact this) dv⟩
theorem startB_en {N : List Str} {ws : List V} {c : Nat} {o : HO} {Hd H : Hp} (e : Ex Hd H) (hd : Hd p = none) (ho : H p = some o) (hb : BoxO c o) (h : DtA K Hd ws ds) (hN : 1 ≤ N.length) : EnB K p Hd (hid p H) (startB N p ds) c (L2.start N (.ref p :: ws)) Hd H := by
  have hl := h.length
  have hx : Ext Hd (hid p H) Hd H := ⟨.refl _, hid_ex, e, fun _ _ z _ => z⟩
  have notown : ∀ (i : Nat) (fs : List PyData), (startB N p ds)[i]? ≠ some (G.own fs) := fun i fs h1 => by
    unfold startB at h1
    cases i with
    | zero => cases h1
    | succ i =>
      rw [List.getElem?_cons_succ] at h1
      by_cases hi : i < ds.length
      · rw [List.getElem?_append_left (by simpa using hi), List.getElem?_map, List.getElem?_eq_getElem hi] at h1
        cases h1
      · rw [List.getElem?_append_right (by simpa using hi), List.getElem?_replicate] at h1
        split at h1
        · cases h1
        · cases h1
  refine ⟨⟨hx, ?_, fun i g hg => ?_, fun i j fs es w _ h1 _ _ _ => notown i fs h1⟩, hd, hid_same, ⟨o, ho, hb⟩, fun i fs h1 => absurd h1 (notown i fs)⟩
  · simp [startB, L2.start, hl]; omega
  · unfold startB at hg
    cases i with
    | zero =>
      cases hg
      rfl
    | succ i =>
      rw [List.getElem?_cons_succ] at hg
      by_cases hi : i < ds.length
      · rw [List.getElem?_append_left (by simpa using hi), List.getElem?_map, List.getElem?_eq_getElem hi] at hg
        cases hg
        obtain ⟨v, g1, g2⟩ := h.got (List.getElem?_eq_getElem hi)
        refine ⟨v, ?_, g2⟩
        unfold L2.start
        rw [List.getElem?_append_left (by simp; omega), List.getElem?_map, List.getElem?_cons_succ, g1]
        rfl
      · rw [List.getElem?_append_right (by simpa using hi), List.getElem?_replicate] at hg
        split at hg
        · cases hg; trivial
        · cases hg
theorem run_b {N : List Str} {ws : List V} {c : Nat} {o : HO} {Hd H : Hp} {Q : VK} {dom : List PyData → PyData → Prop} (e : Ex Hd H) (hd : Hd p = none) (ho : H p = some o) (hb : BoxO c o) (hc : c + m < 2 ^ 60) (h : DtA K Hd ws ds) (hN : 1 ≤ N.length)
    (hs : SB K p t (startB N p ds) m (fun _ => False) (dom ds)) (q : ∀ v r Hd' H', dom ds r → Ext Hd (hid p H) Hd' H' → Hd' p = none → (∃ o, H' p = some o ∧ BoxO (c + m) o) → Dt K Hd' v r → Q v H') :
    t { nx := fun _ H' => Q .non H', rt := Q } (L2.start N (.ref p :: ws)) H :=
  hs _ _ _ _ _ _ (startB_en e hd ho hb h hN) hc _ (fun _ _ _ _ z => z.elim) fun r v Hd' H' hr x y b dv => q v r Hd' H' hr x y b dv
/-- a, b = two new lists -/
theorem sb_par {i j : Nat} {xs ys : List PyData} (h1 : EF K ta Γ xs) (h2 : EF K tb Γ ys) : SB K p (tPar i j (tCons ta (tCons tb tNil))) Γ 0 (fun Δ => Δ = (Γ.set i (.own xs)).set j (.own ys)) Or := fun _ _ c σ Hd H e hc D q1 _ =>
  h1 _ _ σ Hd H e.en _ fun a ws Hd1 H1 x1 n1 k1 g1 d1 => h2 _ _ σ Hd1 H1 (e.en.ext x1) _ fun b us Hd2 H2 x2 n2 k2 g2 d2 => by
    have e2 := (e.ext x1).ext x2
    obtain ⟨o, ho, _⟩ := e.b
    have hap : a ≠ p := fun z => by subst z; rw [n1] at ho; cases ho
    have hbp : b ≠ p := fun z => by subst z; rw [x1.h _ _ ho] at n2; cases n2
    have hab : a ≠ b := fun z => by subst z; rw [g1] at n2; cases n2
    have newa : ∀ (j : Nat) (es : List PyData), Γ[j]? = some (G.own es) → σ[j]? ≠ some (some (V.ref a)) := fun j es hj hs => by
      obtain ⟨b, vs, g1, _, _, g4, _⟩ := e.en.own hj
      rw [hs] at g1
      cases g1
      rw [n1] at g4
      cases g4
    have newb : ∀ (j : Nat) (es : List PyData), Γ[j]? = some (G.own es) → σ[j]? ≠ some (some (V.ref b)) := fun j es hj hs => by
      obtain ⟨b, vs, g1, _, _, g4, _⟩ := e.en.own hj
      rw [hs] at g1
      cases g1
      rw [x1.h _ _ g4] at n2
      cases n2
    have ea := e2.setOwn (i := i) (Evl.fresh_back e.en.x.h n1) (x2.f _ _ k1 g1) (x2.h _ _ g1) (d1.mono x2.d) hap newa
    have eb := ea.setOwn (i := j) (Evl.fresh_back e.en.x.h (Evl.fresh_back x1.h n2)) k2 g2 d2 hbp fun l es hl hs => by
      by_cases z : i = l
      · subst z
        have hil : i < σ.length := by
          have := (List.getElem?_eq_some_iff.mp hl).1
          rw [← e2.en.l]
          simpa using this
        rw [List.getElem?_set_self hil] at hs
        exact hab (V.ref.inj (Option.some.inj (Option.some.inj hs)))
      · rw [List.getElem?_set_ne z] at hl hs
        exact newb l es hl hs
    exact ⟨_, _, rfl, q1 _ _ Hd2 H2 rfl eb (x1.d.trans x2.d)⟩
/-- found.append(rest.pop(take(tin, len(rest)))) -/
theorem sb_popapp {i j z : Nat} {rs fs : List PyData} (hij : i ≠ j) (hi : Γ[i]? = some (.own rs)) (hj : Γ[j]? = some (.own fs)) (h0 : Γ[z]? = some (.val (.ref p))) (hn : 1 ≤ rs.length) (hl : rs.length < 1000000) (hf : fs.length < 100000) :
    SB K p (tDrop (tBM K "list" rAppend (tVar j) (tCons (tBM K "list" rPopAt (tVar i) (tCons (tCall spTake [] E0 (tCons (tVar z) (tCons (tCB (rLenOf K) (tCons (tVar i) tNil)) tNil))) tNil)) tNil))) Γ 1 (fun Δ => ∃ k x, rs[k]? = some x ∧ Δ = (Γ.set i (.own (rs.eraseIdx k))).set j (.own (fs ++ [x]))) Or := fun _ _ c σ Hd H e hc D q1 _ => by
  obtain ⟨a, ws, s1, n0, n1, h1, d1⟩ := e.en.own hi
  obtain ⟨b, us, t1, m0, m1, g1, f1⟩ := e.en.own hj
  refine ⟨_, t1, tyV_list g1, ?_⟩
  refine ⟨_, s1, tyV_list h1, ?_⟩
  refine eb_take h0 (ed_lenR (er_own hi)) (by omega) (by omega) _ _ c σ Hd H e hc _ fun v r Hd1 H1 hr x1 e1 dv => ?_
  obtain ⟨k, rfl, k0, k1⟩ := hr
  cases dv
  obtain ⟨a', ws', s1', n0', n1', h1', d1'⟩ := e1.en.own hi
  rw [s1] at s1'
  cases s1'
  have hl' := d1'.length
  obtain ⟨k, rfl⟩ : ∃ q : Nat, k = (q : Int) := ⟨k.toNat, by omega⟩
  obtain ⟨y, hy⟩ : ∃ y, ws'[k]? = some y := ⟨_, List.getElem?_eq_getElem (by omega)⟩
  obtain ⟨q, hm1, hm2, hm3, _, _⟩ := atI_get (atI_nat hy)
  obtain ⟨x, hx, dx⟩ := d1'.get hm2
  have e2 := e1.change hi s1 (d1'.erase q)
  obtain ⟨b', us', t1', _, _, g1', f1'⟩ := e2.en.own (i := j) (by rw [List.getElem?_set_ne hij]; exact hj)
  rw [t1] at t1'
  cases t1'
  refine ⟨a, ws', _, q, y, rfl, rfl, h1', by omega, by omega, hm1, hm2, ?_⟩
  exact ⟨b, us', y, rfl, rfl, g1', Nat.lt_of_lt_of_le (by rw [f1'.length]; exact hf) (by decide : 100000 ≤ sizeLine), q1 _ σ Hd1 _ ⟨q, x, hx, rfl⟩ (e2.change (by rw [List.getElem?_set_ne hij]; exact hj) t1 (f1'.append (.cons dx .nil))) x1.d⟩
/-! ### pure statements among those that draw -/
def noOwn : G → Bool
  | .own _ => false
  | _ => true
theorem sd_b (h : SD K t Γ (.nx Δ)) (h1 : Γ.all noOwn = true) (h2 : Δ.all noOwn = true) : SB K p t Γ 0 (fun Θ => Θ = Δ) Or := fun Hd0 H0 c σ Hd H e hc D q1 _ => by
  have no : ∀ {Θ : List G}, Θ.all noOwn = true → ∀ (i : Nat) (fs : List PyData), Θ[i]? ≠ some (G.own fs) := fun h i fs z => by
    have := List.all_eq_true.mp h _ (List.mem_of_getElem? z)
    cases this
  have e' : En K Hd H Γ σ Hd H := ⟨.refl e.en.x.i, e.en.l, fun i g hg => by
    have q := e.en.g i g hg
    cases g with
    | any => trivial
    | val v => exact q
    | dat d => exact q
    | own fs => exact absurd hg (no h1 i fs), fun i j fs es w _ k _ _ _ => no h1 i fs k⟩
  refine h Hd H σ Hd H e' D fun σ' Hd' H' f xd => ?_
  obtain ⟨o, ho, hb⟩ := e.b
  refine q1 Δ σ' Hd' H' rfl ⟨⟨e.en.x.trans f.x, f.l, fun i g hg => ?_, fun i j fs es w _ k _ _ _ => no h2 i fs k⟩, f.x.f _ _ e.d ho, e.z, ⟨o, f.x.h _ _ ho, hb⟩, fun i fs k => absurd k (no h2 i fs)⟩ f.x.d
  have q := f.g i g hg
  cases g with
  | any => trivial
  | val v => exact q
  | dat d => exact q
  | own fs => exact absurd hg (no h2 i fs)
/-- xs[:k], k drawn -/
theorem eb_slTo (h : ED K ta Γ (.list ds)) (hb : EB K p tb Γ n R) (hR : ∀ r, R r → ∃ k : Int, r = .int k) : EB K p (tSl (rSlL K) ta tNoPart (tPart tb)) Γ n (fun r => ∃ k : Int, r = .list (cutD ds none (some k)) ∧ R (.int k)) := fun _ _ c σ Hd H e hc Q q =>
  h _ _ σ Hd H e.en _ fun v Hd1 H1 x1 d1 => hb _ _ c σ Hd1 H1 (e.ext x1) hc _ fun w r Hd2 H2 hr x2 e2 d2 => by
    obtain ⟨k, rfl⟩ := hR r hr
    cases d2
    cases d1 with
    | lst g1 g2 =>
      refine ⟨k, rfl, _, _, rfl, SqL.of (x2.i _ _ (x2.d _ _ g1)), fun a ha => ?_⟩
      have y : ∀ o, Ext Hd2 H2 (upd Hd2 a o) (upd H2 a o) := fun o => (Ext.refl e2.en.x.i).new ha
      exact q _ _ _ _ ⟨k, rfl, hr⟩ ((x1.hidE.hid2 x2).hid2 (y _).hidE) (e2.ext (y _)) (.lst upd_same ((cut_dt (g2.mono x2.d)).mono (Ex.new (Evl.fresh_back x2.i ha))))
theorem cd_tupL : CD K (rTupOf K) [.list ds] (.tuple ds) := fun Hd H vs ex hv Q q => by
  cases hv with
  | cons g hv =>
    cases hv
    cases g with
    | @lst a ws _ g1 g2 => exact ⟨a, ws, rfl, .inl ⟨SqL.of (ex _ _ g1), fun l hl => q _ (upd Hd l (.tup ws)) _ ((Ext.refl ex).new hl) (.tup upd_same (g2.mono (Ex.new (Evl.fresh_back ex hl))))⟩⟩
theorem cutD_take (ds : List PyData) (k : Int) (h : 0 ≤ k) : cutD ds none (some k) = ds.take k.toNat := by
  obtain ⟨m, rfl⟩ : ∃ m : Nat, k = (m : Int) := ⟨k.toNat, by omega⟩
  unfold cutD
  rw [HT.sIx_none, HT.sIx_nat, List.drop_zero, Nat.sub_zero, Int.toNat_natCast]
  by_cases h : m ≤ ds.length
  · rw [Nat.min_eq_left h]
  · rw [Nat.min_eq_right (by omega), List.take_length, List.take_of_length_le (by omega)]
theorem cutD_drop (ds : List PyData) (m : Nat) : cutD ds (some (m : Int)) none = ds.drop m := by
  unfold cutD
  rw [HT.sIx_none, HT.sIx_nat]
  by_cases h2 : m ≤ ds.length
  · rw [Nat.min_eq_left h2, List.take_of_length_le (by rw [List.length_drop]; omega)]
  · rw [Nat.min_eq_right (by omega), List.drop_length, List.drop_of_length_le (by omega), List.take_nil]
theorem dta_perm {H : Hp} {ys xs : List V} (h : ys.Perm xs) : ∀ {ds : List PyData}, DtA K H xs ds → ∃ es, es.Perm ds ∧ DtA K H ys es := by
  induction h with
  | nil => exact fun h => ⟨_, .refl _, h⟩
  | cons v _ ih =>
    intro ds h
    cases h with
    | cons h1 h2 =>
      obtain ⟨es, p1, p2⟩ := ih h2
      exact ⟨_, p1.cons _, .cons h1 p2⟩
  | swap a b l =>
    intro ds h
    cases h with
    | cons h1 h2 => cases h2 with
      | cons h2 h3 => exact ⟨_, .swap _ _ _, .cons h2 (.cons h1 h3)⟩
  | trans _ _ ih1 ih2 =>
    intro ds h
    obtain ⟨es, p1, p2⟩ := ih2 h
    obtain ⟨fs, p3, p4⟩ := ih1 p2
    exact ⟨fs, p3.trans p1, p4⟩
theorem eb_sortedTS (h : ED K te Γ (.list ds)) (hp : ∀ d ∈ ds, ∃ q, d = pairM q) : EB K p (tCB (rSortedTS K) (tCons te tNil)) Γ 0 (fun r => ∃ es, r = .list es ∧ es.Perm ds) := fun _ _ c σ Hd H e hc Q q =>
  h _ _ σ Hd H e.en _ fun v Hd1 H1 x1 d1 => by
    cases d1 with
    | @lst a ws _ g1 g2 =>
      refine ⟨a, ws, rfl, SqL.of (x1.i _ _ g1), fun x hx => ?_, fun ys l hy hl => ?_⟩
      · obtain ⟨k, hk⟩ := List.getElem?_of_mem hx
        obtain ⟨d, hd, dx⟩ := g2.get hk
        obtain ⟨⟨i, j⟩, rfl⟩ := hp d (List.mem_of_getElem? hd)
        cases dx with
        | @tup t _ tvs k1 k2 =>
          have := DtA.ofStrs (xs := [i, j]) k2
          subst this
          exact ⟨t, i, j, rfl, x1.i _ _ k1⟩
      · obtain ⟨es, p1, p2⟩ := dta_perm hy g2
        have e1 := e.ext x1
        have y : ∀ o, Ext Hd1 H1 (upd Hd1 l o) (upd H1 l o) := fun o => (Ext.refl x1.i).new hl
        exact q _ _ _ _ ⟨es, rfl, p1⟩ (x1.hidE.hid2 (y _).hidE) (e1.ext (y _)) (.lst upd_same (p2.mono (Ex.new (Evl.fresh_back x1.i hl))))
theorem pairs_of {qs : List (Str × Str)} : ∀ {ys : List PyData}, (∀ y ∈ ys, ∃ q ∈ qs, y = pairM q) → ∃ ms : List (Str × Str), ys = ms.map pairM ∧ ∀ m ∈ ms, m ∈ qs
  | [], _ => ⟨[], rfl, fun _ z => nomatch z⟩
  | y :: ys, h => by
    obtain ⟨ms, h1, h2⟩ := pairs_of fun z hz => h z (List.mem_cons_of_mem _ hz)
    obtain ⟨q, hq, rfl⟩ := h y List.mem_cons_self
    exact ⟨q :: ms, by rw [h1]; rfl, fun m hm => (List.mem_cons.mp hm).elim (fun z => z ▸ hq) (h2 m)⟩
theorem states_of {ns : List Str} : ∀ {ys : List PyData}, Paired (fun r q => ∃ s w, r = .str s ∧ q = .tuple [.str s, w] ∧ fine w = true ∧ w.depth ≤ 1) (ns.map PyData.str) ys → ∃ nws : List (Str × PyData), ys = nws.map stD ∧ nws.map (·.1) = ns ∧ ∀ p ∈ nws, fine p.2 = true ∧ p.2.depth ≤ 1 := by
  induction ns with
  | nil =>
    intro ys h
    cases h
    exact ⟨[], rfl, rfl, fun _ z => nomatch z⟩
  | cons n ns ih =>
    intro ys h
    cases h with
    | cons h1 h2 =>
      obtain ⟨s, w, e, rfl, f1, f2⟩ := h1
      cases e
      obtain ⟨nws, rfl, rfl, h3⟩ := ih h2
      exact ⟨(n, w) :: nws, rfl, rfl, fun m hm => (List.mem_cons.mp hm).elim (fun z => z ▸ ⟨f1, f2⟩) (h3 m)⟩
/-- the pairs of the first k of some texts, each with all behind it -/
def pairsN (ns : List Str) (k : Nat) : List (Str × Str) := (List.range k).flatMap fun j => match ns[j]? with
  | some t => (ns.drop (j + 1)).map fun u => (t, u)
  | none => []
theorem pairsN_succ {ns : List Str} {k : Nat} {t : Str} (h : ns[k]? = some t) : pairsN ns (k + 1) = pairsN ns k ++ (ns.drop (k + 1)).map fun u => (t, u) := by
  unfold pairsN
  rw [List.range_succ, List.flatMap_append]
  simp [h]
theorem pairsN_mem {ns : List Str} {k : Nat} {q : Str × Str} (h : q ∈ pairsN ns k) : q.1 ∈ ns ∧ q.2 ∈ ns := by
  obtain ⟨j, _, hj⟩ := List.mem_flatMap.mp h
  cases z : ns[j]? with
  | none => rw [z] at hj; cases hj
  | some t =>
    rw [z] at hj
    obtain ⟨u, hu, rfl⟩ := List.mem_map.mp hj
    exact ⟨List.mem_of_getElem? z, List.mem_of_mem_drop hu⟩
theorem pairsN_len {ns : List Str} (hn : ns.length ≤ 20) : ∀ k : Nat, (pairsN ns k).length ≤ 20 * k
  | 0 => Nat.le_refl _
  | k + 1 => by
    have ih := pairsN_len hn k
    cases z : ns[k]? with
    | none =>
      have : pairsN ns (k + 1) = pairsN ns k := by
        unfold pairsN
        rw [List.range_succ, List.flatMap_append]
        simp [z]
      rw [this]
      omega
    | some t =>
      rw [pairsN_succ z, List.length_append, List.length_map, List.length_drop]
      omega
end
end DL

namespace DL
open PySem PySem.Spec PyProof.Rows L2
open Evl (Ex)
open RZ
/-! ### a call with names alone -/
structure DfK (P : Program) (w : World) (K : PySem.W.Frag) (mg : Str → Option Value) (base : Heap) (k : Nat) (x : Str) (ps ks : List Str) (g : List Value → List Value → List Value) (gV : List V → List V → List V) (sp : Sp) : Prop where
  ex : ∃ f fd, FnOk P w K mg base CX0 k f fd ps sp ∧ mg x = some (.ref f) ∧ PySem.W.keepIn K (.ref f) = true ∧ KBinds K fd ps ks g gV
section
variable {P : Program} {w : World} {K : PySem.W.Frag} {mg : Str → Option Value} {base : Heap}
theorem Tx.ok2 {x : Str} {ps ks N : List Str} {st : Stmt} {k : Nat} {sp : Sp} {g : List Value → List Value → List Value} {gV : List V → List V → List V} (T : Tx K mg x ps st) (S : FnScope N ps (defScope st)) (len : ∀ vs H Q E, sp vs H Q E → vs.length = ps.length)
    (hkb : ∀ (kV doc pm : Value) (an : Option Addr) (cdv ct : Value) (us ws : List Value), (g us ws).length = ps.length → bindArgs (PySem.W.fnOf x x (defArgs st) (defBody st) (defScope st) .none kV doc pm an cdv ct) ⟨us, ks.zip ws⟩ = pure (ps.zip (g us ws)))
    (hrel : ∀ {vs : List V} {us : List Value} {zs : List V} {ws : List Value}, Vals vs us → Vals zs ws → Vals (gV vs zs) (g us ws))
    (hbody : ∀ (f : Addr) (cdv : Value) (A : Around) (outer : List Env) (s : Shared) (H : Hp) (vs : List V) (Q : VK) (E : XK), Room k (A.deeper (envOfC x (defScope st) s.heap.objs.size f cdv)) → sp vs H Q E →
      ∃ t, PSs (cxOf CX0 P w K mg base N x (defScope st) f cdv A outer s H E).nox (defBody st) t ∧ t { nx := fun _ H' => Q .non H', rt := Q } (L2.start N vs) H) : Df P w K mg base (k + 1) x ps sp ∧ DfK P w K mg base (k + 1) x ps ks g gV sp := by
  obtain ⟨f, fd, F, m, b⟩ := T.ex
  refine ⟨⟨f, fd, F.ok S len (hbody f), m, F.kp, b⟩, ⟨f, fd, F.ok S len (hbody f), m, F.kp, ?_⟩⟩
  obtain ⟨oc, od, kV, doc, pm, an, cdv, ct, osl, rfl, lk, hcd⟩ := F.ex
  exact ⟨fun s us ws _ hl => BindsTo.of_eq (hkb kV doc pm an cdv ct us ws hl), fun r1 r2 => hrel r1 r2⟩
variable {X : Cx} {x : Str} {ps ks : List Str} {sp : Sp} {g : List Value → List Value → List Value} {gV : List V → List V → List V} {p pos : Pos} {kws : List Keyword} {tk : TA} {j k : Nat}
theorem pe_defK0 (D : DfK X.prog X.w X.K X.mg X.base j x ps ks g gV sp) (hr : Room k X.A) (hj : j ≤ k) (hkw : PK X kws tk) (hg : Gl X x := by rfl) (hall : (backToKw pos (keywordEach kws X.env)).all (·.1.isSome) = true := by rfl) (hks : (backToKw pos (keywordEach kws X.env)).filterMap (·.1) = ks := by rfl)
    (hdb : (x == ("__debug__" : Str)) = false := by decide) (hpl : ((backTo pos (starEach [] X.env)).any (·.1) || (backToKw pos (keywordEach kws X.env)).any (·.1.isNone)) = false := by rfl) :
    PE X (.Call (.Name x p) [] kws pos) (tCallK sp gV E0 tNil tk) := by
  obtain ⟨f, fd, F, m, k1, b⟩ := D.ex
  refine ⟨fun pins s σ H Q I h => ?_⟩
  refine wpAny_Call_Name_kw (ld_glob I hg m ?_ hdb)
  refine PySem.W.callWith_KW0 (h₀ := X.base) I.ok.mod.kin k1 hall (thn (hkw.run pos pins s σ H _ I h) fun ws s2 ⟨zs, H2, I2, rz, q2⟩ => ⟨I2.kIn, ?_⟩) hpl
  rw [hks]
  exact run_fnk (us := []) (vs := []) (F.mono hj) hr b pass0 I2 .nil rz q2
end
def swapV {α : Type} : List α → List α → List α
  | [], [a, b] => [b, a]
  | _, _ => []
theorem swap_rel {vs : List V} {us : List Value} {zs : List V} {ws : List Value} (h1 : Vals vs us) (h2 : Vals zs ws) : Vals (swapV vs zs) (swapV us ws) := by
  cases h1 with
  | cons _ _ => exact .nil
  | nil =>
    cases h2 with
    | nil => exact .nil
    | cons a h2 => cases h2 with
      | nil => exact .nil
      | cons b h2 => cases h2 with
        | nil => exact .cons b (.cons a .nil)
        | cons _ _ => exact .nil
section
variable {K : PySem.W.Frag} {p : Addr} {Γ Δ : List G} {n m l : Nat} {ta tb te tk : TE} {tt tu : TT} {d e x y z : PyData} {ds : List PyData} {R R1 R2 : PyData → Prop} {g : TG} {vs : List Nat} {t u : TS} {On On1 : List G → Prop} {Or : PyData → Prop} {b : Bool} {dom : List PyData → PyData → Prop}
theorem ed_callK {E : XK} {tk : TA} (h : EA K tk Γ [y, x]) (hd : dom [x, y] d) : ED K (tCallK (spD K 2 dom) swapV E tNil tk) Γ d := fun _ _ σ Hd H e Q q =>
  h _ _ σ Hd H e _ fun vs Hd1 H1 x1 d1 => by
    cases d1 with
    | cons a d1 => cases d1 with
      | cons c d1 =>
        cases d1
        exact ⟨rfl, Hd1, _, _, x1.i, .cons c (.cons a .nil), hd, fun v Hd' H' x2 dv => q v Hd' H' (x1.trans x2) dv⟩
/-! ### more readings of data -/
theorem ed_ixR {i : Int} (h : ER K te Γ ds) (hk : ED K tk Γ (.int i)) (ha : atI ds i = some z) : ED K (tOp (rIx K) te tk) Γ z := fun _ _ σ Hd H e Q q =>
  h _ _ σ Hd H e _ fun a vs Hd1 H1 x1 h1 d1 => hk _ _ σ Hd1 H1 (e.ext x1) _ fun w Hd2 H2 x2 dk => by
    cases dk
    unfold atI at ha
    cases hj : ixN ds.length i with
    | none => rw [hj] at ha; cases ha
    | some j =>
      rw [hj] at ha
      obtain ⟨u, g1, g2⟩ := d1.got (i := j) ha
      exact .inl ⟨a, vs, i, u, rfl, rfl, SqL.of (x2.h _ _ h1), (by unfold atI; rw [d1.length, hj]; exact g1), q _ Hd2 H2 (x1.trans x2) (g2.mono x2.d)⟩
theorem ed_neg {i : Int} (h : ED K ta Γ (.int i)) : ED K (tUn (rU fun i => .int (-i)) ta) Γ (.int (-i)) := fun _ _ σ Hd H e Q q =>
  h _ _ σ Hd H e _ fun v Hd1 H1 x1 d1 => by
    cases d1
    exact ⟨i, rfl, q _ Hd1 H1 x1 (.int _)⟩
theorem ef_revL (h : ER K te Γ ds) : EF K (tRevL K te) Γ ds.reverse := fun _ _ σ Hd H e Q q =>
  h _ _ σ Hd H e _ fun a vs Hd1 H1 x1 h1 d1 => ⟨a, vs, rfl, SqL.of h1, fun l hl => q l _ Hd1 _ (x1.mut (Evl.fresh_back x1.h hl) (Evl.fresh_back x1.i hl)) (Evl.fresh_back x1.h hl) (Evl.fresh_back x1.i hl) upd_same d1.rev⟩
theorem dta_rep {H : Hp} {vs : List V} (h : DtA K H vs ds) : ∀ k : Nat, DtA K H (List.replicate k vs).flatten (List.replicate k ds).flatten
  | 0 => .nil
  | k + 1 => by
    rw [List.replicate_succ, List.replicate_succ, List.flatten_cons, List.flatten_cons]
    exact h.append (dta_rep h k)
theorem ef_rep {i : Int} (h : ED K ta Γ (.list ds)) (hk : ED K tb Γ (.int i)) (h1 : 0 ≤ i) (h2 : i ≤ 1000) (h3 : ds.length ≤ 100) : EF K (tOp rRep ta tb) Γ (List.replicate i.toNat ds).flatten := fun _ _ σ Hd H e Q q =>
  h _ _ σ Hd H e _ fun v Hd1 H1 x1 d1 => hk _ _ σ Hd1 H1 (e.ext x1) _ fun w Hd2 H2 x2 d2 => by
    cases d2
    cases d1 with
    | @lst a ws _ g1 g2 =>
      have hm : ws.length * i.toNat ≤ 100 * 1000 := Nat.mul_le_mul (by rw [g2.length]; exact h3) (by omega)
      have x12 := x1.trans x2
      exact ⟨a, i, ws, rfl, rfl, x2.h _ _ (x1.i _ _ g1), by omega, by omega, Nat.le_trans hm (by decide), fun l hl => q l _ Hd2 _ (x12.mut (Evl.fresh_back x12.h hl) (Evl.fresh_back x12.i hl)) (Evl.fresh_back x12.h hl) (Evl.fresh_back x12.i hl) upd_same (dta_rep (g2.mono x2.d) _)⟩
/-! ### more statements among those that draw -/
theorem sb_parD {i j : Nat} (h1 : ED K ta Γ x) (h2 : ED K tb Γ y) : SB K p (tPar i j (tCons ta (tCons tb tNil))) Γ 0 (fun Δ => Δ = (Γ.set i (.dat x)).set j (.dat y)) Or := fun _ _ c σ Hd H e hc D q1 _ =>
  h1 _ _ σ Hd H e.en _ fun v Hd1 H1 x1 d1 => h2 _ _ σ Hd1 H1 (e.en.ext x1) _ fun w Hd2 H2 x2 d2 =>
    ⟨_, _, rfl, q1 _ _ Hd2 H2 rfl ((((e.ext x1).ext x2).set (d1.mono x2.d)).set d2) (x1.d.trans x2.d)⟩
theorem sb_ownL {i : Nat} (h : EB K p te Γ n R) : SB K p (tAsg (tLst (tCons te tNil)) (gName i)) Γ n (fun Δ => ∃ d, R d ∧ Δ = Γ.set i (.own [d])) Or := fun _ _ c σ Hd H e hc D q1 _ =>
  h _ _ c σ Hd H e hc _ fun v r Hd1 H1 hr x1 e1 d1 => ⟨by show 1 ≤ sizeLine; decide, fun a ha => by
    have n1 := Evl.fresh_back e1.en.x.i ha
    have e2 := e1.ext ((Ext.refl e1.en.x.i).mut (o := .lst [v]) ha n1)
    have hap : a ≠ p := fun z => by
      subst z
      obtain ⟨o, ho, _⟩ := e1.b
      rw [ha] at ho
      cases ho
    refine q1 _ _ Hd1 _ ⟨r, hr, rfl⟩ (e2.setOwn (Evl.fresh_back e1.en.x.h ha) n1 upd_same (.cons d1 .nil) hap fun j es hj hs => ?_) x1.d
    obtain ⟨b, vs, g1, _, _, g4, _⟩ := e1.en.own hj
    rw [hs] at g1
    cases g1
    rw [ha] at g4
    cases g4⟩
variable (K p) in
/-- a test that draws -/
def ETB (tt : TT) (Γ : List G) (n : Nat) (R : Bool → Prop) : Prop := ∀ Hd0 H0 c σ Hd H, EnB K p Hd0 H0 Γ c σ Hd H → c + n < 2 ^ 60 → ∀ Q : Bool → Hp → Prop, (∀ b Hd' H', R b → Ext Hd (hid p H) Hd' H' → EnB K p Hd0 H0 Γ (c + n) σ Hd' H' → Q b H') → tt σ H Q
variable {Q1 Q2 : Bool → Prop}
theorem etb_pure (h : ET K tt Γ b) : ETB K p tt Γ 0 (fun c => c = b) := fun _ _ c σ Hd H e _ Q q => h _ _ σ Hd H e.en _ fun Hd1 H1 x1 => q b Hd1 H1 rfl x1.hidE (e.ext x1)
theorem etb_test (h : EB K p te Γ n R) (hR : ∀ r, R r → ∃ b, r = .bool b) : ETB K p (tTest te) Γ n (fun b => R (.bool b)) := fun _ _ c σ Hd H e hc Q q => h _ _ c σ Hd H e hc _ fun v r Hd1 H1 hr x1 e1 d1 => by
  obtain ⟨b, rfl⟩ := hR r hr
  cases d1
  exact ⟨b, rfl, q b Hd1 H1 hr x1 e1⟩
theorem etb_and (h1 : ETB K p tt Γ n Q1) (h2 : Q1 true → ETB K p tu Γ m Q2) : ETB K p (tAnd tt tu) Γ (n + m) (fun b => b = true → Q1 true ∧ Q2 true) := fun _ _ c σ Hd H e hc Q q => h1 _ _ c σ Hd H e (by omega) _ fun b Hd1 H1 hr x1 e1 => by
  cases b with
  | true => exact iteT (h2 hr _ _ _ σ Hd1 H1 e1 (by omega) _ fun b Hd2 H2 hr2 x2 e2 => q b Hd2 H2 (fun z => ⟨hr, z ▸ hr2⟩) (x1.hid2 x2) (by have := e2; rw [Nat.add_assoc] at this; exact this))
  | false => exact iteF (q false Hd1 H1 (fun z => nomatch z) x1 (e1.mono (by omega)))
theorem eb_ifB (h : ETB K p tt Γ n Q1) (h1 : Q1 true → EB K p ta Γ m R) (h2 : EB K p tb Γ m R) : EB K p (tIf tt ta tb) Γ (n + m) R := fun _ _ c σ Hd H e hc Q q => h _ _ c σ Hd H e (by omega) _ fun b Hd1 H1 hr x1 e1 => by
  cases b with
  | true => exact iteT (h1 hr _ _ _ σ Hd1 H1 e1 (by omega) _ fun v r Hd2 H2 hr2 x2 e2 dv => q v r Hd2 H2 hr2 (x1.hid2 x2) (by have := e2; rw [Nat.add_assoc] at this; exact this) dv)
  | false => exact iteF (h2 _ _ _ σ Hd1 H1 e1 (by omega) _ fun v r Hd2 H2 hr2 x2 e2 dv => q v r Hd2 H2 hr2 (x1.hid2 x2) (by have := e2; rw [Nat.add_assoc] at this; exact this) dv)
end
end DL

namespace DL
open PySem PySem.Spec PyProof.Rows L2
open Evl (Ex)
open RZ
/-! ### enumerate(text), tuple(text) -/
def Ites (x : Str) : It :=
  ⟨fun i _ => i < x.cps.size, fun i H v H' => ∃ T c, v = .ref T ∧ H T = none ∧ H' = upd H T (.tup [.int (i : Nat), .str ⟨#[c]⟩]) ∧ x.cps[i]? = some c, fun i _ => i = x.cps.size⟩
theorem two_cases {a b c : Addr} {p : Addr → Prop} (h : c ∈ [a, b]) (ha : p a) (hb : p b) : p c := by
  rcases List.mem_cons.mp h with q | q
  · exact q ▸ ha
  · exact List.mem_singleton.mp q ▸ hb
/-- the signs of a text, drawn one by one -/
theorem signs_drawn {P : Program} {w : World} {A : Around} (quiet : A.handled = none) {it : Addr} {x : Str} {t : Tok} {ty : String} (kind : ty = "str_ascii_iterator" ∨ ty = "str_iterator") :
    Draws P w A it [it] x.cps.size (fun n v => ∃ c u, x.cps[n]? = some c ∧ v = .str ⟨#[c]⟩ u) (fun n h => h.IsStrIter it ty x t n) := by
  rcases kind with rfl | rfl
  · exact Draws.strAscii quiet it x t
  · exact Draws.strWide quiet it x t
theorem turn_enumS {P : Program} {w : World} {K : PySem.W.Frag} {es : List Expr} {q : Nat} {ps : Pos} (en it : Addr) (x : Str) (t : Tok) (ty : String) (kind : ty = "str_ascii_iterator" ∨ ty = "str_iterator") :
    Turn P w K (.Tuple es q ps) (Ites x) [en, it] en (fun n h => en ≠ it ∧ h.IsStrIter it ty x t n ∧ ∃ last, IsEnum h en it ((n : Nat) : Int) last) where
  mem := List.mem_cons_self
  obj := fun n h ⟨_, ⟨o, oat, _, od⟩, _, eat⟩ b hb => two_cases (p := fun b => ∃ o, h.get? b = some o ∧ ∀ v, o.data ≠ .cell v) hb ⟨_, eat, fun _ z => nomatch z⟩ ⟨o, oat, fun _ z => by rw [od] at z; exact nomatch z⟩
  keep := fun n h h2 ⟨apart, ⟨o, oat, r⟩, last, eat⟩ k => ⟨apart, ⟨o, k it (List.mem_cons_of_mem _ List.mem_cons_self) o oat, r⟩, last, k en List.mem_cons_self _ eat⟩
  item := by
    rintro Y rfl rfl rfl calm n pins s σ H E J free ⟨apart, iter, last, eat⟩ more
    obtain ⟨_, itat, _⟩ := id iter
    have old : ∀ b ∈ [en, it], b < s.heap.objs.size := fun b hb => two_cases (p := fun b => b < s.heap.objs.size) hb (Heap.lt_size eat) (Heap.lt_size itat)
    refine wpAny_pyNext_enum_itemD (signs_drawn (A := Y.A.in1) (show Y.A.in1.handled = none from J.ok.hd calm) kind) eat iter more apart (fun z => apart (List.mem_singleton.mp z)) fun u g tk sign out next pair _ rest => ?_
    obtain ⟨c, tc, at_c, rfl⟩ := sign
    refine ⟨_, rfl, wpAny_letOwnedTupleGo_enum (s := { s with heap := g, toks := tk + 1 }) out fun g2 eat2 only => ?_⟩
    have fresh : H s.heap.objs.size = none := J.hok.fresh (Nat.le_refl _)
    have pair2 := (only.2 s.heap.objs.size (Nat.ne_of_gt (old en List.mem_cons_self))).trans pair
    have made : ObjOk Y.prog Y.w (upd H s.heap.objs.size (.tup [.int (n : Nat), .str ⟨#[c]⟩])) g2 s.heap.objs.size (.tup [.int (n : Nat), .str ⟨#[c]⟩]) :=
      ⟨(by show 2 ≤ sizeLine; decide), [.int n tk, .str ⟨#[c]⟩ tc], .cons ⟨_, rfl⟩ (.cons ⟨_, rfl⟩ .nil), ⟨_, pair2, rfl, _, rfl⟩⟩
    have J2 := J.turnedNew (t' := tk + 1) (ch := [en, it]) (h' := g2) (fun b ob out2 was => by
      have n1 : b ≠ en := fun z => out2 (z ▸ List.mem_cons_self)
      have n2 : b ≠ it := fun z => out2 (z ▸ List.mem_cons_of_mem _ List.mem_cons_self)
      exact (only.2 b n1).trans (rest b ob n1 n2 was)) free (Nat.le_refl _) made
    obtain ⟨oi, nat, nr⟩ := next
    refine ⟨.ref s.heap.objs.size, _, J2, rfl, ⟨_, c, rfl, fresh, rfl, at_c⟩, ⟨apart, ⟨oi, (only.2 it apart.symm).trans nat, nr⟩, .str ⟨#[c]⟩ tc, ?_⟩, fun b hb => ?_⟩
    · rw [show ((n + 1 : Nat) : Int) = (n : Int) + 1 by omega]
      exact eat2
    · show upd H _ _ b = none
      rw [upd_ne (Nat.ne_of_lt (old b hb)), (free b hb).1]
  done := by
    rintro Y rfl rfl rfl calm n pins s σ H E J free ⟨apart, iter, last, eat⟩ rfl
    have ⟨w0, w1, _, w3, w4, w5⟩ := free it (List.mem_cons_of_mem _ List.mem_cons_self)
    exact wpAny_pyNext_enum_endD (signs_drawn (A := Y.A.in1) (show Y.A.in1.handled = none from J.ok.hd calm) kind) eat iter fun g kept => ⟨rfl, J.turned (t' := s.toks) (fun b o nb was => kept b o nb was) w0 w1 w3 w4 w5⟩
  self := fun A n s Q E ⟨_, _, _, eat⟩ h => wpAny_pyIter_enum eat h
def iEnumS (ta : TA) : TI := fun σ H R => ta σ H fun vs H1 => ∃ x, vs = [.str x] ∧ R (Ites x) H1
theorem pi_enumS {X : Cx} {e : Expr} {ta : TA} {p q ps : Pos} {es : List Expr} {n : Nat} (hg : Gl X "enumerate") (hm : X.mg "enumerate" = none) (ha : PA X [e] ta) (plain : starEach [e] X.env = [(false, eval e X.env)] := by rfl) :
    PI X (.Tuple es n ps) (.Call (.Name "enumerate" p) [e] [] q) (iEnumS ta) := ⟨fun pins s σ H R J h => by
  refine Call_ (ld_blt J hg hm boot_enumerate ?_)
  refine PyProof.Rows.callWith_type1 (thn (ha.run q pins s σ H _ J h) fun us s1 ⟨vs, H1, J1, rel, x, ev, go⟩ => ?_) plain rfl
  subst ev
  obtain ⟨_, rfl, t, rfl⟩ := vals1 rel
  refine call_enumerate_str fun g eat iter _ kept => wpAny_pyIter_enum eat ?_
  have J2 : Inv X pins σ H1 { s1 with heap := g } := J1.kept (t' := s1.toks) kept
  have kind : strIterType x = "str_ascii_iterator" ∨ strIterType x = "str_iterator" := by
    unfold strIterType
    split <;> simp
  refine ⟨s1.heap.objs.size + 1, [s1.heap.objs.size + 1, s1.heap.objs.size], _, _, H1, rfl, J2, turn_enumS (s1.heap.objs.size + 1) s1.heap.objs.size x t (strIterType x) kind, ⟨Nat.succ_ne_self _, iter, .none, eat⟩, fun b hb => ?_, go⟩
  have late := two_cases (p := fun b => s1.heap.objs.size ≤ b) hb (Nat.le_succ _) (Nat.le_refl _)
  exact J1.fpOk late (J1.hok.fresh late)⟩
def charsD (x : Str) : List PyData := x.cps.toList.map fun c => .str ⟨#[c]⟩
section
variable {K : PySem.W.Frag} {Γ : List G}
theorem ei_enumS {ta : TA} {x : Str} (h : EA K ta Γ [.str x]) : EI K (iEnumS ta) Γ (enumD (charsD x)) := fun _ _ σ Hd H e R q => h _ _ σ Hd H e _ fun v Hd1 H1 x1 d1 => by
  cases d1 with
  | cons d1 d2 =>
    cases d1
    cases d2
    have hl : (enumD (charsD x)).length = x.cps.size := by unfold enumD charsD; rw [zipD_len]; simp
    refine ⟨x, rfl, q _ Hd1 H1 x1 fun Hd' H' e1 e2 => ⟨hl, fun i d hd => ?_⟩⟩
    have hi : i < x.cps.size := hl ▸ (List.getElem?_eq_some_iff.mp hd).1
    refine ⟨hi, fun v H'' ⟨T, c, ev, hT, eH, hc⟩ => ?_⟩
    subst ev eH
    obtain ⟨y, z, hy, hz, rfl⟩ := zipD_get hd
    have ey : y = .int (i : Nat) := by
      rw [List.getElem?_map, List.getElem?_range (by unfold charsD; simpa using hi)] at hy
      exact (Option.some.inj hy).symm
    have ez : z = .str ⟨#[c]⟩ := by
      unfold charsD at hz
      rw [List.getElem?_map, Array.getElem?_toList, hc] at hz
      exact (Option.some.inj hz).symm
    subst ey ez
    exact ⟨_, (Ext.refl e2).new hT, .tup upd_same (.cons (.int _) (.cons (.str _) .nil))⟩
end
theorem vals_signs : ∀ (l : List Nat) (m : List Value), m.length = l.length → (∀ (j : Nat) (v : Value), m[j]? = some v → ∃ c u, l[j]? = some c ∧ v = .str ⟨#[c]⟩ u) → Vals (l.map fun c => V.str ⟨#[c]⟩) m
  | [], [], _, _ => .nil
  | [], _ :: _, h, _ => nomatch h
  | _ :: _, [], h, _ => nomatch h
  | c :: l, v :: m, h, q => by
    obtain ⟨c', u, e, rfl⟩ := q 0 v rfl
    cases e
    exact .cons ⟨u, rfl⟩ (vals_signs l m (by simpa using h) fun j v hj => q (j + 1) v hj)
def rTupS : List V → Hp → VK → Prop := fun xs H Q => ∃ x : Str, xs = [.str x] ∧ x.cps.size ≤ sizeLine ∧ ∀ l, H l = none → Q (.ref l) (upd H l (.tup (x.cps.toList.map fun c => .str ⟨#[c]⟩)))
theorem call_tupS {X : Cx} (hc : X.calm = true) : CallR X (.type "tuple") rTupS := by
  intro pins s σ H xs us Q I r h
  obtain ⟨x, rfl, hz, q⟩ := h
  obtain ⟨u, rfl, ru⟩ := vals1 r
  obtain ⟨t, rfl⟩ := ru
  refine call_tuple_str (I.ok.hd hc) x t (fun h' tk acc hk hacc => ?_) hz
  have I1 : Inv X pins σ H { s with heap := h', toks := tk } := I.kept (t' := tk) hk
  have hv : Vals (x.cps.toList.map fun c => V.str ⟨#[c]⟩) acc.toList := by
    refine vals_signs _ _ (by rw [Array.length_toList, Array.length_toList]; exact hacc.1) fun j v hj => ?_
    obtain ⟨c, u, e1, e2⟩ := hacc.2 j v (by rw [← Array.getElem?_toList]; exact hj)
    exact ⟨c, u, by rw [Array.getElem?_toList]; exact e1, e2⟩
  have I2 : Inv X pins σ (upd H h'.objs.size (.tup (x.cps.toList.map fun c => .str ⟨#[c]⟩))) { s with heap := h'.push { cls := .type "tuple", data := .seq acc }, toks := tk } :=
    I1.laid (t' := tk) (fun b o e => Heap.get?_push_of_some _ e) (Nat.le_refl _) (show ObjOk X.prog X.w _ _ _ (.tup _) from ⟨by simpa using hz, acc.toList, hv, by simpa using IsTup.new _ _⟩)
  exact ⟨.ref h'.objs.size, _, I2, rfl, q _ (I1.hok.fresh (Nat.le_refl _))⟩
theorem ed_tupS {K : PySem.W.Frag} {Γ : List G} {te : TE} {x : Str} (h : ED K te Γ (.str x)) (hl : x.cps.size ≤ 100000) : ED K (tCB rTupS (tCons te tNil)) Γ (.tuple (charsD x)) := fun _ _ σ Hd H e Q q => h _ _ σ Hd H e _ fun v Hd1 H1 x1 d1 => by
  cases d1
  refine ⟨x, rfl, fits_of hl, fun l hl => q _ (upd Hd1 l (.tup _)) _ (x1.new hl) (.tup upd_same ?_)⟩
  have := DtA.strs (K := K) (H := upd Hd1 l (.tup (x.cps.toList.map fun c => .str ⟨#[c]⟩))) (x.cps.toList.map fun c => (⟨#[c]⟩ : Str))
  rw [List.map_map, List.map_map] at this
  exact this
section
variable {K : PySem.W.Frag} {Γ : List G} {te ta tb : TE} {ds : List PyData}
theorem ed_int1I {i : Int} (h : ED K te Γ (.int i)) : ED K (tCB (fun xs H Q => (∃ i, xs = [V.int i] ∧ Q (V.int i) H) ∨ ∃ k, xs = [V.bl k] ∧ Q (V.int (if k then 1 else 0)) H) (tCons te tNil)) Γ (.int i) := fun _ _ σ Hd H e Q q => h _ _ σ Hd H e _ fun v Hd1 H1 x1 d1 => by
  cases d1
  exact .inl ⟨i, rfl, q _ Hd1 H1 x1 (.int i)⟩
theorem ed_int1B {b : Bool} (h : ED K te Γ (.bool b)) : ED K (tCB (fun xs H Q => (∃ i, xs = [V.int i] ∧ Q (V.int i) H) ∨ ∃ k, xs = [V.bl k] ∧ Q (V.int (if k then 1 else 0)) H) (tCons te tNil)) Γ (.int (if b then 1 else 0)) := fun _ _ σ Hd H e Q q => h _ _ σ Hd H e _ fun v Hd1 H1 x1 d1 => by
  cases d1
  exact .inr ⟨b, rfl, q _ Hd1 H1 x1 (.int _)⟩
theorem ed_repT {i : Int} (h : ED K ta Γ (.tuple ds)) (hk : ED K tb Γ (.int i)) (hn : ds ≠ []) (h1 : 2 ≤ i) (h2 : i ≤ 1000) (h3 : ds.length ≤ 100) : ED K (tOp (rRepT K) ta tb) Γ (.tuple (List.replicate i.toNat ds).flatten) := fun _ _ σ Hd H e Q q =>
  h _ _ σ Hd H e _ fun v Hd1 H1 x1 d1 => hk _ _ σ Hd1 H1 (e.ext x1) _ fun w Hd2 H2 x2 d2 => by
    cases d2
    cases d1 with
    | @tup a ws _ g1 g2 =>
      have hl := g2.length
      have x12 := x1.trans x2
      exact ⟨a, i, ws, rfl, rfl, SqT.of (x2.h _ _ (x1.i _ _ g1)), fun z => hn (List.eq_nil_of_length_eq_zero (by rw [← hl, z]; rfl)), h1, h2, by omega, fun l hl => q _ (upd Hd2 l (.tup _)) _ (x12.new hl) (.tup upd_same ((dta_rep (g2.mono x2.d) _).mono (Ex.new (Evl.fresh_back x12.i hl))))⟩
end
end DL

namespace Law
open PySem PySem.Spec PyProof.Rows L2 DL
open Evl (Ex)
open RZ
def topS (i : Nat) : Stmt := PySem.Challenge.pw_oldornew_k32_walks_or_none.main.body.getD i (.Pass ⟨0, 0, 0, 0⟩)
structure Bt (mg : Str → Option Value) : Prop where
  len : mg "len" = none
  abs : mg "abs" = none
  int : mg "int" = none
  list : mg "list" = none
  tuple : mg "tuple" = none
  dict : mg "dict" = none
  bool : mg "bool" = none
  str : mg "str" = none
  range : mg "range" = none
  zip : mg "zip" = none
  enumerate : mg "enumerate" = none
  all : mg "all" = none
  isinstance : mg "isinstance" = none
  sorted : mg "sorted" = none
  min : mg "min" = none
section
variable {P : Program} {w : World} {K : PySem.W.Frag} {mg : Str → Option Value} {base : Heap}
abbrev s_names : Stmt := topS 1
theorem sc_names : FnScope ["chart", "state"] ["chart"] (defScope s_names) := ⟨rfl, rfl, rfl, by decide +kernel, rfl, by decide +kernel, by decide +kernel⟩
theorem ok_names (X : Tx K mg "names" ["chart"] s_names) (T : Bt mg) : Df P w K mg base 1 "names" ["chart"] (spD K 1 domNames) := by
  refine X.ok sc_names (fun vs H Q E h => h.1.trans rfl) (fun f cdv A outer s H vs Q E hr h => ?_)
  obtain ⟨hl, Hd, ds, r, e, hd, ⟨d, ns, ms, rfl, c, rfl⟩, q⟩ := h
  obtain ⟨sz, st, mv, sts, mvs, e1, e2, e3, p1, p2⟩ := c.ex
  refine ⟨_, (pss_one (ps_ret (pe_callTy (tupS K) (by rfl) T.tuple boot_tuple (pa_cons (pe_lc (own := [("state", 1)]) (g := gName 1) (tt := tYes) rfl sc_names.nd (piSeq K (pe_ix (ixS K) (pv 0) pe_int (fun _ _ => rfl))) (blkOk_by (N := ["chart", "state"]) (sc := defScope s_names) (by decide +kernel)) (fun _ _ _ _ _ => (pg_name (i := 1) sc_names.nd rfl (Or.inl rfl) (hf := .inr rfl))) (fun _ _ _ _ _ => pts_nil) (fun _ _ _ _ _ => (pe_ix (ixS K) (pv 1) pe_int (fun _ _ => rfl)))) pa_nil)))), ?_⟩
  refine run_d e hd ?_ q
  have hn : sts.length ≤ 100000 := by have := p1.length; have := c.nl; omega
  refine sd_ret (ed_tupR ((ef_lc0 (f := firstOf) (ei_seqQ e2 (ed_op (ed_var rfl) ed_int (rd_ixQ e1 rfl))) hn fun x hx => ⟨_, gd_name (List.mem_singleton.mpr rfl), ?_⟩).is (map_first p1)).rd)
  obtain ⟨k, hk⟩ := List.getElem?_of_mem hx
  obtain ⟨n, hn', w', hw⟩ := pairGet p1 hk
  refine (ed_op (ed_var rfl) ed_int (rd_ixQ hw (z := .str n) rfl)).is ?_
  unfold firstOf
  rw [hw]
abbrev s_near_by_name : Stmt := topS 2
theorem sc_near_by_name : FnScope ["chart", "near", "one", "other", "name"] ["chart"] (defScope s_near_by_name) := ⟨rfl, rfl, rfl, by decide +kernel, rfl, by decide +kernel, by decide +kernel⟩
theorem ok_near (X : Tx K mg "near_by_name" ["chart"] s_near_by_name) (T : Bt mg) (D_names : Df P w K mg base 1 "names" ["chart"] (spD K 1 domNames)) : Df P w K mg base 2 "near_by_name" ["chart"] (spD K 1 domNear) := by
  refine X.ok sc_near_by_name (fun vs H Q E h => h.1.trans rfl) (fun f cdv A outer s H vs Q E hr h => ?_)
  obtain ⟨hl, Hd, ds, r, e, hd, ⟨d, ns, ms, rfl, c, rfl⟩, q⟩ := h
  obtain ⟨sz, st, mv, sts, mvs, e1, e2, e3, p1, p2⟩ := c.ex
  refine ⟨_, (pss_cons (ps_set (i := 1) sc_near_by_name.nd rfl (Or.inr rfl) (pe_dc (own := [("name", 4)]) (g := gName 4) (tt := tYes) rfl sc_near_by_name.nd (piTup K (pe_def D_names hr (by omega) (pa_cons (pv 0) pa_nil))) (blkOk_by (N := ["chart", "near", "one", "other", "name"]) (sc := defScope s_near_by_name) (by decide +kernel)) (fun _ _ _ _ _ => (pg_name (i := 4) sc_near_by_name.nd rfl (Or.inl rfl) (hf := .inr rfl))) (fun _ _ _ _ _ => pts_nil) (fun _ _ _ _ _ => (pv 4)) (fun _ _ _ _ _ => (pe_lst pa_nil)))) (pss_cons (ps_for PassesOwn.never rfl (piSeq K (pe_ix (ixS K) (pv 0) pe_int (fun _ _ => rfl))) (pgSeq K rfl (pgs_cons (pg_name (i := 2) sc_near_by_name.nd rfl (Or.inl rfl)) (pgs_cons (pg_name (i := 3) sc_near_by_name.nd rfl (Or.inl rfl)) pgs_nil))) (pss_cons (ps_expr (pe_bm PySem.F.plainAttrs_list PySem.F.slot_list_append PySem.F.type_list_append mt_append (pe_dget (hu_of hr) (pv 1) (pv 2) (fun _ _ => rfl)) (pa_cons (pv 3) pa_nil))) (pss_one (ps_expr (pe_bm PySem.F.plainAttrs_list PySem.F.slot_list_append PySem.F.type_list_append mt_append (pe_dget (hu_of hr) (pv 1) (pv 3) (fun _ _ => rfl)) (pa_cons (pv 2) pa_nil)))))) (pss_one (ps_ret (pe_lock (pe_dc (own := [("name", 4)]) (g := gName 4) (tt := tYes) rfl sc_near_by_name.nd (pi_keys (pv 1)) (blkOk_by (N := ["chart", "near", "one", "other", "name"]) (sc := defScope s_near_by_name) (by decide +kernel)) (fun _ _ _ _ _ => (pg_name (i := 4) sc_near_by_name.nd rfl (Or.inl rfl) (hf := .inr rfl))) (fun _ _ _ _ _ => pts_nil) (fun _ _ _ _ _ => (pv 4)) (fun _ _ _ _ _ => (pe_callB (sortedSS K) (by rfl) T.sorted boot_sorted (pa_cons (pe_dget (hu_of hr) (pv 1) (pv 4) (fun _ _ => rfl)) pa_nil))))))))), ?_⟩
  cases hd with
  | cons hd hd' =>
  cases hd'
  rename_i v0
  -- near = {name: [] for name in names(chart)}
  refine ⟨_, rfl, rfl, Hd, [d], .tuple (ns.map PyData.str), e, .cons hd .nil, ⟨d, ns, ms, rfl, c, rfl⟩, fun v Hd1 H1 x1 dv => ?_⟩
  cases dv with
  | @tup t _ tvs h1 h2 =>
  have etv := h2.ofStrs
  subst etv
  have ht : SqT K H1 t (ns.map V.str) := SqT.of (x1.i _ _ h1)
  refine ⟨t, rfl, ⟨_, ht⟩, fun a na => ?_⟩
  have na0 : H a = none := Evl.fresh_back x1.h na
  have na1 : Hd1 a = none := Evl.fresh_back x1.i na
  refine dc_tup (K := K) (a := t) (xs := ns.map V.str) (fun i G => Ex H1 G ∧ ∃ as : List (Str × Addr), as.map (·.1) = ns.take i ∧ G a = some (.dK (dk as)) ∧ (as.map (·.2)).Nodup ∧ ∀ p ∈ as, H1 p.2 = none ∧ p.2 ≠ a ∧ G p.2 = some (.lst []))
    ⟨Ex.new na, [], rfl, upd_same, .nil, fun p hp => nomatch hp⟩ (fun i G _ hP => Evl.ex_t hP.1 ht) ?_ ?_
  · rintro i x G hx ⟨xg, as, ha1, ha2, ha3, ha4⟩
    obtain ⟨n, hn, rfl⟩ : ∃ n, ns[i]? = some n ∧ x = .str n := by
      rw [List.getElem?_map] at hx
      obtain ⟨n, h1, h2⟩ := Option.map_eq_some_iff.mp hx
      exact ⟨n, h1, h2.symm⟩
    have hil : i < ns.length := (List.getElem?_eq_some_iff.mp hn).1
    have hnew : n ∉ as.map (·.1) := fun hm => by
      rw [ha1] at hm
      obtain ⟨j, hj1, hj2⟩ := List.mem_take_iff_getElem.mp hm
      have : j = i := nd_ix c.nd (x := n) (by rw [List.getElem?_eq_getElem (by omega)]; exact congrArg some hj2) hn
      omega
    refine ⟨rfl, ?_⟩
    refine ⟨_, rfl, Nat.zero_le _, fun p np => ⟨dk as, .inr n, rfl, by rw [upd_ne (fun z => by rw [← z, ha2] at np; cases np)]; exact ha2, ?_, ?_⟩⟩
    · unfold dk
      rw [List.length_map]
      have := congrArg List.length ha1
      rw [List.length_map, List.length_take] at this
      have := c.nl
      have h3 : as.length < 100000 := by omega
      exact Nat.lt_of_lt_of_le h3 (by decide)
    · have npa : a ≠ p := fun z => by
        rw [← z, ha2] at np
        cases np
      refine ⟨(xg.trans (Ex.new np)).mut na, as ++ [(n, p)], ?_, ?_, ?_, fun q hq => ?_⟩
      · rw [List.map_append, ha1, List.take_add_one, hn]
        rfl
      · rw [upd_same]
        have hk : putK (dk as) (Sum.inr n : Key) (V.ref p) = dk (as ++ [(n, p)]) := by
          unfold putK dk
          rw [if_neg]
          · rw [List.map_append]
            rfl
          · intro hany
            obtain ⟨kv, hkv, hdec⟩ := List.any_eq_true.mp hany
            obtain ⟨q, hq, rfl⟩ := List.mem_map.mp hkv
            have := Sum.inr.inj (of_decide_eq_true hdec)
            exact hnew (this ▸ List.mem_map_of_mem hq)
        exact congrArg (fun z => some (HO.dK z)) hk
      · rw [List.map_append]
        refine List.nodup_append.mpr ⟨ha3, by simp, fun q hq r hr z => ?_⟩
        obtain ⟨u, hu, rfl⟩ := List.mem_map.mp hq
        simp only [List.map_cons, List.map_nil, List.mem_singleton] at hr
        subst hr
        have := (ha4 u hu).2.2
        rw [z, np] at this
        cases this
      · rcases List.mem_append.mp hq with hq | hq
        · obtain ⟨g1, g2, g3⟩ := ha4 q hq
          have nqp : q.2 ≠ p := fun z => by
            rw [z, np] at g3
            cases g3
          exact ⟨g1, g2, by rw [upd_ne g2, upd_ne nqp]; exact g3⟩
        · have eq := List.mem_singleton.mp hq
          subst eq
          exact ⟨Evl.fresh_back xg np, npa.symm, by rw [upd_ne npa.symm, upd_same]⟩
  · rintro G ⟨xg, as, ha1, ha2, ha3, ha4⟩
    rw [List.length_map, List.take_length] at ha1
    -- what stands behind the first row
    have xE : Ext Hd H Hd1 G := by
      refine ⟨x1.d, x1.h.trans xg, x1.i.trans xg, x1.f⟩
    have N0 : Nr H Hd1 G a as (fun n => nearL (ms.take 0) n) := by
      refine ⟨na0, na1, fun p hp => ?_, by rw [ha1]; exact c.nd, ha3⟩
      obtain ⟨g1, g2, g3⟩ := ha4 p hp
      exact ⟨Evl.fresh_back x1.h g1, Evl.fresh_back x1.i g1, g2, g3⟩
    have En0 : En K Hd H [.dat d, .val (.ref a), .any, .any, .any] [some v0, some (.ref a), none, none, none] Hd1 G := by
      refine ⟨xE, rfl, fun i g hg => ?_, fun i j fs es w _ h1 _ _ _ => ?_⟩
      · match i, hg with
        | 0, hg => cases hg; exact ⟨v0, rfl, hd.mono x1.d⟩
        | 1, hg => cases hg; exact rfl
        | 2, hg => cases hg; trivial
        | 3, hg => cases hg; trivial
        | 4, hg => cases hg; trivial
        | i + 5, hg => cases hg
      · match i, h1 with
        | 0, h => cases h
        | 1, h => cases h
        | 2, h => cases h
        | 3, h => cases h
        | 4, h => cases h
        | i + 5, h => cases h
    -- for one, other in chart[2]
    have hEI : EI K (iSeq K (tOp (rIx K) (tVar 0) (tC (.int 2)))) [.dat d, .val (.ref a), .any, .any, .any] mvs := ei_seqQ e3 (ed_op (ed_var rfl) ed_int (rd_ixQ e1 rfl))
    show tFor (iSeq K (tOp (rIx K) (tVar 0) (tC (.int 2)))) _ _ _ _ _
    unfold tFor
    refine hEI _ _ _ _ _ En0 _ fun J Hd2 G2 x2 ok => ?_
    have hml : mvs.length = ms.length := p2.length
    refine ⟨fun k m σ' H' => m = mvs.length - k ∧ k ≤ mvs.length ∧ ∃ Hd', Ex Hd2 Hd' ∧ En K Hd H [.dat d, .val (.ref a), .any, .any, .any] σ' Hd' H' ∧ H' a = some (.dK (dk as)) ∧ Nr H Hd' H' a as (fun n => nearL (ms.take k) n),
      ⟨mvs.length, rfl, Nat.zero_le _, Hd2, .refl _, En0.ext x2, x2.h _ _ ha2, N0.ext ⟨_, ha2⟩ x2⟩, ?_⟩
    rintro k m σ' H' ⟨rfl, hk, Hd', xd, en, hda, nr⟩
    obtain ⟨stp, go⟩ := ok Hd' H' xd en.x.i
    by_cases hlt : k < mvs.length
    · have hmv : mvs[k]? = some mvs[k] := by simp [hlt]
      obtain ⟨gi, yl⟩ := go k _ hmv
      obtain ⟨⟨p, o⟩, hpo, hsq⟩ := pairGet p2 hmv
      have hmem : (p, o) ∈ ms := List.mem_of_getElem? hpo
      obtain ⟨hpn, hon⟩ := c.mem _ hmem
      have bnd : ∀ n, (nearL (ms.take k) n).length < 999 := fun n => by
        have h1 := nearL_len (ms.take k) n
        rw [List.length_take] at h1
        have := c.ml
        omega
      refine .inr ⟨gi, fun σ'' H'' => ∃ Hd', Ex Hd2 Hd' ∧ En K Hd H [.dat d, .val (.ref a), .any, .any, .any] σ'' Hd' H'' ∧ H'' a = some (.dK (dk as)) ∧ Nr H Hd' H'' a as (fun n => nearL (ms.take (k + 1)) n), fun σ'' H'' w => ⟨mvs.length - (k + 1), by omega, rfl, hlt, w⟩, fun x H3 y3 => ?_⟩
      obtain ⟨Hd3, x3, d3⟩ := yl x H3 y3
      refine gd_twoQ (vs := [2, 3]) hsq (by decide) (by decide) _ _ σ' Hd3 H3 x (en.ext x3) d3 _ fun σ2 e2' _ => ?_
      have nr3 := nr.ext ⟨_, hda⟩ x3
      have hda3 := x3.h _ _ hda
      obtain ⟨w2, s2, t2⟩ := e2'.dat (i := 2) (d := .str p) rfl
      obtain ⟨w3, s3, t3⟩ := e2'.dat (i := 3) (d := .str o) rfl
      cases t2
      cases t3
      have s1 : σ2[1]? = some (some (.ref a)) := e2'.g 1 (.val (.ref a)) rfl
      obtain ⟨⟨p', ap⟩, hap, ep⟩ := List.mem_map.mp (show p ∈ as.map (·.1) by rw [ha1]; exact hpn)
      obtain ⟨⟨o', ao⟩, hao, eo⟩ := List.mem_map.mp (show o ∈ as.map (·.1) by rw [ha1]; exact hon)
      simp only at ep eo
      subst ep eo
      have ne1 : ap ≠ a := (nr3.l _ hap).2.2.1
      have ne2 : ao ≠ a := (nr3.l _ hao).2.2.1
      have b1 := bnd p'
      have b2 := bnd o'
      refine app_near nr3 hda3 s1 s2 s3 hap (by omega) ?_
      have nr4 := nr3.app (y := o') hap
      have hda4 : (upd H3 ap (.lst ((nearL (ms.take k) p' ++ [o']).map V.str))) a = some (.dK (dk as)) := by
        rw [upd_ne ne1.symm]
        exact hda3
      refine app_near nr4 hda4 s1 s3 s2 hao ?_ ?_
      · have hh : (if o' = p' then nearL (ms.take k) o' ++ [o'] else nearL (ms.take k) o').length < 1000 := by
          split <;> first | (rw [List.length_append, List.length_singleton]; omega) | omega
        exact hh
      · have nr5 := nr4.app (y := p') hao
        refine ⟨Hd3, xd.trans x3.d, ?_, by rw [upd_ne ne2.symm]; exact hda4, ?_⟩
        · have f1 := nr3.l _ hap
          have f2 := nr3.l _ hao
          have no : ∀ (i : Nat) (ds : List PyData), (((([.dat d, .val (.ref a), .any, .any, .any] : List DL.G).set 2 (.dat (.str p'))).set 3 (.dat (.str o'))))[i]? ≠ some (DL.G.own ds) := fun i ds z => by
            match i, z with
            | 0, z => cases z
            | 1, z => cases z
            | 2, z => cases z
            | 3, z => cases z
            | 4, z => cases z
            | i + 5, z => cases z
          have m1 := e2'.mutO (o := .lst ((nearL (ms.take k) p' ++ [o']).map V.str)) f1.1 f1.2.1 no
          have m2 := m1.mutO (o := .lst (((if o' = p' then nearL (ms.take k) o' ++ [o'] else nearL (ms.take k) o') ++ [p']).map V.str)) f2.1 f2.2.1 no
          exact (m2.weak (i := 2)).weak (i := 3)
        · have ec : (fun n => nearL (ms.take (k + 1)) n) = (fun n => if n = o' then (if n = p' then nearL (ms.take k) n ++ [o'] else nearL (ms.take k) n) ++ [p'] else (if n = p' then nearL (ms.take k) n ++ [o'] else nearL (ms.take k) n)) := by
            funext n
            have et : ms.take (k + 1) = ms.take k ++ [(p', o')] := by
              rw [List.take_add_one, hpo]
              rfl
            have en' : nearL (ms.take (k + 1)) n = nearL (ms.take k) n ++ ((if p' = n then [o'] else []) ++ (if o' = n then [p'] else [])) := by
              rw [et]
              unfold nearL
              rw [List.flatMap_append]
              simp
            rw [en']
            by_cases z1 : n = p' <;> by_cases z2 : n = o'
            · subst z1; subst z2; simp
            · have z2' : ¬ o' = n := fun q => z2 q.symm
              subst z1; simp [z2, z2']
            · have z1' : ¬ p' = n := fun q => z1 q.symm
              subst z2; simp [z1, z1']
            · have z1' : ¬ p' = n := fun q => z1 q.symm
              have z2' : ¬ o' = n := fun q => z2 q.symm
              simp [z1, z2, z1', z2']
          rw [ec]
          exact nr5
    · have ek : k = mvs.length := by omega
      subst ek
      refine .inl ⟨stp, ?_⟩
      rw [hml] at nr
      rw [List.take_length] at nr
      -- return {name: sorted(near[name]) for name in near}
      have s1 : σ'[1]? = some (some (.ref a)) := en.g 1 (.val (.ref a)) rfl
      have l4 : 4 < σ'.length := by
        rw [← en.l]
        show 4 < 5
        decide
      refine ⟨a, _, hda, True.intro, fun od => ⟨_, s1, a, od, rfl, .inl ⟨_, upd_same, fun b nb => ?_⟩⟩⟩
      have nba : b ≠ a := fun z => by
        rw [z, upd_same] at nb
        cases nb
      have nbH : H' b = none := by
        rw [upd_ne nba] at nb
        exact nb
      have xF : Ext Hd H Hd' (upd H' a (.frz od (.dK (dk as)))) := en.x.mut nr.n0 nr.nd
      have hasl : as.length = ns.length := by
        have := congrArg List.length ha1
        rw [List.length_map] at this
        exact this
      refine ⟨fun i m G => m = as.length - i ∧ i ≤ as.length ∧ ∃ (Hd3 : Hp) (ks : List (Key × V)), Ext Hd H Hd3 G ∧ Hd3 a = none ∧ Hd3 b = none ∧ G a = some (.frz od (.dK (dk as))) ∧ G b = some (.dK ks) ∧ ks.length = i ∧ (∀ kv ∈ ks, ∃ n ∈ ns.take i, kv.1 = Sum.inr n) ∧ DtK K Hd3 ks ((ns.take i).map fun n => (.str n, .list ((sortS (nearL ms n)).map PyData.str))) ∧ ∀ p ∈ as, G p.2 = some (.lst ((nearL ms p.1).map V.str)) ∧ Hd3 p.2 = none,
        ⟨as.length, rfl, Nat.zero_le _, Hd', [], xF.mut (Evl.fresh_back en.x.h nbH) (Evl.fresh_back en.x.i nbH), nr.nd, Evl.fresh_back en.x.i nbH, by rw [upd_ne nba.symm, upd_same], upd_same, rfl, (fun kv hkv => nomatch hkv), .nil, fun p hp => ?_⟩, ?_⟩
      · obtain ⟨g1, g2, g3, g4⟩ := nr.l p hp
        have npb : p.2 ≠ b := fun z => by
          rw [z, nbH] at g4
          cases g4
        exact ⟨by rw [upd_ne npb, upd_ne g3]; exact g4, g2⟩
      · rintro i m G ⟨rfl, hi, Hd3, ks, xg, a3, b3, ga, gb, gl, gk, gt, gp⟩
        by_cases hlt2 : i < as.length
        · have hp : as[i]? = some as[i] := by simp [hlt2]
          generalize hpi : as[i] = pr at hp
          obtain ⟨n, ap⟩ := pr
          have hpm : (n, ap) ∈ as := List.mem_of_getElem? hp
          have hni : ns[i]? = some n := by
            rw [← ha1, List.getElem?_map, hp]
            rfl
          have hdki : (dk as)[i]? = some (Sum.inr n, V.ref ap) := by
            unfold dk
            rw [List.getElem?_map, hp]
            rfl
          refine .inr ⟨⟨ga, by unfold dk; rw [List.length_map]; exact hlt2⟩, fun G' => ∃ (Hd3 : Hp) (ks : List (Key × V)), Ext Hd H Hd3 G' ∧ Hd3 a = none ∧ Hd3 b = none ∧ G' a = some (.frz od (.dK (dk as))) ∧ G' b = some (.dK ks) ∧ ks.length = i + 1 ∧ (∀ kv ∈ ks, ∃ n ∈ ns.take (i + 1), kv.1 = Sum.inr n) ∧ DtK K Hd3 ks ((ns.take (i + 1)).map fun n => (.str n, .list ((sortS (nearL ms n)).map PyData.str))) ∧ ∀ p ∈ as, G' p.2 = some (.lst ((nearL ms p.1).map V.str)) ∧ Hd3 p.2 = none,
            fun G' w => ⟨as.length - (i + 1), by omega, rfl, hlt2, w⟩, ?_⟩
          rintro x H'' ⟨eH, k', v', hk', ex⟩
          subst eH
          rw [hdki] at hk'
          cases hk'
          subst ex
          obtain ⟨gap, gad⟩ := gp _ hpm
          refine ⟨(wipe_set (List.mem_singleton.mpr rfl)).trans (wipe_wipe fun _ z => z), ?_⟩
          refine ⟨_, List.getElem?_set_self (by rw [wipe_length]; exact l4), _, ?_, _, List.getElem?_set_self (by rw [wipe_length]; exact l4), a, .ref ap, rfl, .inl ⟨dk as, Sum.inr n, .inr ⟨od, ga⟩, rfl, (dk_look nr.kd hpm).symm⟩, ap, nearL ms n, rfl, SqL.of gap, ?_, fun ys p hperm hsort np => ?_⟩
          · rw [List.getElem?_set_ne (by decide)]
            show ((σ'.set 4 none))[1]? = _
            rw [List.getElem?_set_ne (by decide)]
            exact s1
          · have h1 := nearL_len ms n
            have := c.ml
            omega
          · have ey : ys = sortS (nearL ms n) := sorted_unique (hperm.trans (sortS_perm _).symm) hsort (sortS_sorted _)
            subst ey
            have npa : a ≠ p := fun z => by
              rw [← z, ga] at np
              cases np
            have npb : b ≠ p := fun z => by
              rw [← z, gb] at np
              cases np
            have hnew : ∀ kv ∈ ks, ¬ kv.1 = Sum.inr n := fun kv hkv z => by
              obtain ⟨n', hn', e'⟩ := gk kv hkv
              rw [e'] at z
              have := Sum.inr.inj z
              subst this
              obtain ⟨j, hj1, hj2⟩ := List.mem_take_iff_getElem.mp hn'
              have : j = i := nd_ix c.nd (by rw [List.getElem?_eq_getElem (by omega)]; exact congrArg some hj2) hni
              omega
            have hput : putK ks (Sum.inr n : Key) (V.ref p) = ks ++ [(Sum.inr n, V.ref p)] := by
              unfold putK
              rw [if_neg]
              intro hany
              obtain ⟨kv, hkv, hdec⟩ := List.any_eq_true.mp hany
              exact hnew kv hkv (of_decide_eq_true hdec)
            have np3 := Evl.fresh_back xg.i np
            have x5 := xg.new (o := .lst ((sortS (nearL ms n)).map V.str)) np
            refine ⟨ks, Sum.inr n, rfl, by rw [upd_ne npb]; exact gb, ?_, upd Hd3 p (.lst ((sortS (nearL ms n)).map V.str)), _, x5.mut (Evl.fresh_back en.x.h nbH) (by rw [upd_ne npb]; exact b3), by rw [upd_ne npa]; exact a3, by rw [upd_ne npb]; exact b3, by rw [upd_ne nba.symm, upd_ne npa]; exact ga, upd_same, ?_, ?_, ?_, fun q hq => ?_⟩
            · have := c.nl
              have h3 : ks.length < 100000 := by omega
              exact Nat.lt_of_lt_of_le h3 (by decide)
            · rw [hput, List.length_append, gl]
              rfl
            · rw [hput]
              intro kv hkv
              rcases List.mem_append.mp hkv with hkv | hkv
              · obtain ⟨n', hn', e'⟩ := gk kv hkv
                exact ⟨n', by rw [List.take_add_one]; exact List.mem_append_left _ hn', e'⟩
              · rw [List.mem_singleton.mp hkv]
                exact ⟨n, by rw [List.take_add_one, hni]; exact List.mem_append_right _ (by simp), rfl⟩
            · rw [hput, List.take_add_one, hni, List.map_append]
              exact dtk_snoc (gt.mono (Ex.new np3)) (.lst upd_same (DtA.strs _))
            · obtain ⟨g1, g2⟩ := gp q hq
              have nqp : q.2 ≠ p := fun z => by
                rw [z, np] at g1
                cases g1
              have nqb : q.2 ≠ b := fun z => by
                rw [z, gb] at g1
                cases g1
              exact ⟨by rw [upd_ne nqb, upd_ne nqp]; exact g1, by rw [upd_ne nqp]; exact g2⟩
        · have ei : i = as.length := by omega
          subst ei
          rw [hasl, List.take_length] at gt
          refine .inl ⟨⟨ga, by unfold dk; rw [List.length_map]; exact Nat.le_refl _⟩, ga, ?_⟩
          have x6 := xg.mut (p := a) (o := .dK (dk as)) nr.n0 a3
          have gb6 : (upd G a (.dK (dk as))) b = some (.dK ks) := by
            rw [upd_ne nba]
            exact gb
          exact q (.ref b) (upd Hd3 b (.dK ks)) _ (x6.take (Evl.fresh_back en.x.h nbH) b3 gb6) (.dct upd_same (gt.mono (Ex.new b3)))
abbrev s_is_walk : Stmt := topS 4
theorem sc_is_walk : FnScope ["chart", "thing", "near", "name", "one", "other"] ["chart", "thing"] (defScope s_is_walk) := ⟨rfl, rfl, rfl, by decide +kernel, rfl, by decide +kernel, by decide +kernel⟩
theorem ok_is_walk (X : Tx K mg "is_walk" ["chart", "thing"] s_is_walk) (T : Bt mg) (D_near_by_name : Df P w K mg base 2 "near_by_name" ["chart"] (spD K 1 domNear)) : Df P w K mg base 3 "is_walk" ["chart", "thing"] (spD K 2 domWalk) ∧ DfK P w K mg base 3 "is_walk" ["chart", "thing"] ["thing", "chart"] swapV swapV (spD K 2 domWalk) := by
  refine X.ok2 sc_is_walk (fun vs H Q E h => h.1.trans rfl) (fun kV doc pm an cdv ct us ws h => by
    match us, ws, h with
    | [], [_, _], _ => rfl
    | [], [], h => exact absurd h (by simp [swapV])
    | [], [_], h => exact absurd h (by simp [swapV])
    | [], _ :: _ :: _ :: _, h => exact absurd h (by simp [swapV])
    | _ :: _, _, h => exact absurd h (by simp [swapV])) swap_rel (fun f cdv A outer s H vs Q E hr h => ?_)
  obtain ⟨hl, Hd, ds, r, e, hd, ⟨d, ns, ms, th, rfl, c, hf, rfl⟩, q⟩ := h
  refine ⟨_, (pss_cons (ps_if (PW.pt (pw_or (pt_not (pt_val (pe_callB (isiS K) (by rfl) T.isinstance boot_isinstance (pa_cons (pv 1) (pa_cons (pe_bltn (v := .ty "tuple") (by rfl) T.tuple boot_tuple rfl) pa_nil))))) (pw_or1 (pt_cmpR (eqS K hr.units) (pe_callB (lenS K) (by rfl) T.len PySem.boot_len (pa_cons (pv 1) pa_nil)) pe_int (nomark _))))) (pss_one (ps_ret pe_bl)) pss_nil) (pss_cons (ps_set (i := 2) sc_is_walk.nd rfl (Or.inr rfl) (pe_def D_near_by_name hr (by omega) (pa_cons (pv 0) pa_nil))) (pss_cons (ps_if (pt_not (pt_val (pe_callB (allS K) (by rfl) T.all (by decide +kernel) (pa_cons (pe_lc (own := [("name", 3)]) (g := gName 3) (tt := tYes) rfl sc_is_walk.nd (piTup K (pv 1)) (blkOk_by (N := ["chart", "thing", "near", "name", "one", "other"]) (sc := defScope s_is_walk) (by decide +kernel)) (fun _ _ _ _ _ => (pg_name (i := 3) sc_is_walk.nd rfl (Or.inl rfl) (hf := .inr rfl))) (fun _ _ _ _ _ => pts_nil) (fun _ _ _ _ _ => (pe_and (pe_callB (isiS K) (by rfl) T.isinstance boot_isinstance (pa_cons (pv 3) (pa_cons (pe_bltn (v := .ty "str") (by rfl) T.str boot_str rfl) pa_nil))) (pe_one (pe_cmp (pc_din (hu_of hr) (pv 3) (pv 2)) rfl))))) pa_nil)))) (pss_one (ps_ret pe_bl)) pss_nil) (pss_one (ps_ret (pe_callB (allS K) (by rfl) T.all (by decide +kernel) (pa_cons (pe_lc (own := [("one", 4), ("other", 5)]) (g := gTup K 2 (gCons (gName 4) (gCons (gName 5) gNil))) (tt := tYes) rfl sc_is_walk.nd (piZip K (by rfl) T.zip (pa_cons (pv 1) (pa_cons (pe_slice (slT K) (pv 1) (po_some pe_int) po_none) pa_nil))) (blkOk_by (N := ["chart", "thing", "near", "name", "one", "other"]) (sc := defScope s_is_walk) (by decide +kernel)) (fun _ _ _ _ _ => (pgTup K rfl (pgs_cons (pg_name (i := 4) sc_is_walk.nd rfl (Or.inl rfl) (hf := .inr rfl)) (pgs_cons (pg_name (i := 5) sc_is_walk.nd rfl (Or.inl rfl) (hf := .inr rfl)) pgs_nil)))) (fun _ _ _ _ _ => pts_nil) (fun _ _ _ _ _ => (pe_cmpR (inS K) (pv 5) (pe_dget (hu_of hr) (pv 2) (pv 4) (fun _ _ => rfl)) (by rfl)))) pa_nil))))))), ?_⟩
  refine run_d e hd ?_ q
  cases th with
  | tuple xs =>
    have hx := fine_tup hf
    refine sd_ifR (b := false || decide (((xs.length : Nat) : Int) = 0)) (et_or ((et_not (et_val (ed_isi (ed_var rfl) (kb_tuple _)))).is rfl) fun _ => et_test (ed_op (ed_lenT (ed_var rfl)) ed_int rd_eqI)) (fun hb => ?_) (fun hb => ?_) (fun _ z => nomatch z)
    · refine ret_false ?_
      have h0 : xs.length = 0 := by
        have := of_decide_eq_true ((Bool.false_or _).symm.trans hb)
        omega
      show (decide (xs.length ≠ 0) && _) = false
      rw [decide_eq_false (by omega)]
      rfl
    · have h0 : xs.length ≠ 0 := by
        have := of_decide_eq_false ((Bool.false_or _).symm.trans hb)
        omega
      refine sd_seq (sd_set (ed_call (ea_cons (ed_var rfl) ea_nil) rfl ⟨d, ns, ms, rfl, c, rfl⟩)) ?_
      refine sd_ifR (b := !((xs.map (strIn ns)).all id)) (et_not (et_val (ed_all ((ef_lc0 (f := fun x => .bool (strIn ns x)) (ei_tup (ed_var rfl)) hx.1 fun x hxm => ⟨_, gd_name (List.mem_singleton.mpr rfl), ?_⟩).is (map_bool xs)).rd))) (fun hb1 => ?_) (fun hb1 => ?_) (fun _ z => nomatch z)
      · cases x with
        | str s =>
          refine (ed_and (b := true) ((ed_isi (ed_var rfl) (kb_str _)).is rfl) fun _ => ed_din (x := s) (ed_var rfl) (ed_var rfl)).is ?_
          rw [lookD_map]
          show PyData.bool (true && _) = .bool (decide (s ∈ ns))
          by_cases z : s ∈ ns
          · rw [if_pos z, decide_eq_true z]; rfl
          · rw [if_neg z, decide_eq_false z]; rfl
        | _ => exact (ed_and (b := false) (c := false) ((ed_isi (ed_var rfl) (kb_str _)).is rfl) fun z => nomatch z)
      · refine ret_false ?_
        rw [all_map_id, Bool.not_eq_true'] at hb1
        show (_ && (xs.all (strIn ns) && _)) = false
        rw [hb1, Bool.false_and, Bool.and_false]
      · rw [all_map_id, Bool.not_eq_false'] at hb1
        have hall := List.all_eq_true.mp hb1
        have hstr : ∀ x ∈ xs, ∃ s, x = .str s ∧ s ∈ ns := fun x hxm => by
          have := hall x hxm
          cases x with
          | str s => exact ⟨s, rfl, of_decide_eq_true this⟩
          | _ => cases this
        refine sd_ret ((ed_all ((ef_lc0 (ds := zipD xs (xs.drop 1)) (f := pairStep ms) (ei_zipT (ea_cons (ed_var rfl) (ea_cons ((ed_slT (ed_var rfl) (eo_int ed_int) eo_no).is (congrArg PyData.tuple (cutD_from1 xs))) ea_nil))) (by rw [zipD_len]; have := hx.1; omega) fun p hp => ?_).is (map_pairStep ms xs (xs.drop 1))).rd).is ?_)
        · obtain ⟨k, hk⟩ := List.getElem?_of_mem hp
          obtain ⟨x, y, hx1, hy1, rfl⟩ := zipD_get hk
          obtain ⟨a, rfl, ha⟩ := hstr x (List.mem_of_getElem? hx1)
          obtain ⟨b, rfl, hb⟩ := hstr y (List.mem_of_mem_drop (List.mem_of_getElem? hy1))
          refine ⟨_, gd_two (by decide) (by decide), (ed_op (ed_var rfl) (ed_dget (x := a) (d := .list ((sortS (nearL ms a)).map PyData.str)) (ed_var rfl) (ed_var rfl) ?_) rd_inL).is ?_⟩
          · rw [lookD_map, if_pos ha]
          · show PyData.bool (decide (b ∈ sortS (nearL ms a))) = .bool (decide (b ∈ nearL ms a))
            exact congrArg PyData.bool (decide_eq_decide.mpr sortS_mem)
        · show PyData.bool _ = .bool (decide (xs.length ≠ 0) && (xs.all (strIn ns) && _))
          rw [hb1, decide_eq_true h0, all_map_id]
          rfl
  | _ =>
    refine sd_ifR (b := true) ((et_or (b := true) (c := true) ((et_not (et_val (ed_isi (ed_var rfl) (kb_tuple _)))).is rfl) fun z => nomatch z).is rfl) (fun _ => ret_false rfl) (fun z => nomatch z) (fun _ z => nomatch z)
end
end Law

namespace Law
open PySem PySem.Spec PyProof.Rows L2 DL
open Evl (Ex)
open RZ
section
variable {P : Program} {w : World} {K : PySem.W.Frag} {mg : Str → Option Value} {base : Heap}
abbrev s_L_lists : Stmt := topS 11
theorem sc_L_lists : FnScope ["_law_matter", "_law_bit"] ["_law_matter"] (defScope s_L_lists) := ⟨rfl, rfl, rfl, by decide +kernel, rfl, by decide +kernel, by decide +kernel⟩
theorem ok_lists (X : Tx K mg "_law_lists" ["_law_matter"] s_L_lists) (T : Bt mg) : ∀ n : Nat, Df P w K mg base n "_law_lists" ["_law_matter"] (spD K 1 (domLists n))
  | 0 => (Tx.none (n := 1) X).imp fun vs H Q E h => by
    obtain ⟨a, Hd, ds, r, b, c, ⟨_, _, z, _⟩, e⟩ := h
    exact absurd z (Nat.not_lt_zero _)
  | n + 1 => by
    have D_L_lists : Df P w K mg base n "_law_lists" ["_law_matter"] (spD K 1 (domLists n)) := ok_lists X T n
    refine X.ok sc_L_lists (fun vs H Q E h => h.1.trans rfl) (fun f cdv A outer s H vs Q E hr h => ?_)
    obtain ⟨hl, Hd, ds, r, e, hd, ⟨d, rfl, hn, sd, rfl⟩, q⟩ := h
    refine ⟨_, (pss_one (ps_ret (pe_ifExp (pt_val (pe_callB (isiTS K) (by rfl) T.isinstance boot_isinstance (pa_cons (pv 0) (pa_cons (pe_tup (pa_cons (pe_bltn (v := .ty "list") (by rfl) T.list boot_list rfl) (pa_cons (pe_bltn (v := .ty "tuple") (by rfl) T.tuple boot_tuple rfl) pa_nil))) pa_nil)))) (pe_lc (own := [("_law_bit", 1)]) (g := gName 1) (tt := tYes) rfl sc_L_lists.nd (piSeq K (pv 0)) (blkOk_by (N := ["_law_matter", "_law_bit"]) (sc := defScope s_L_lists) (by decide +kernel)) (fun _ _ _ _ _ => (pg_name (i := 1) sc_L_lists.nd rfl (Or.inl rfl) (hf := .inr rfl))) (fun _ _ _ _ _ => pts_nil) (fun _ _ _ _ _ => (pe_def D_L_lists hr (by omega) (pa_cons (pv 1) pa_nil)))) (pv 0)))), ?_⟩
    refine run_d e hd ?_ q
    refine sd_ret (ed_if (b := is_list d || is_tuple d) (et_val (ed_isi2 (ed_var rfl) (kb_list d) (kb_tuple d))) (fun hb => ?_) (fun hb => ?_))
    · cases d with
      | list xs => exact ((ef_lc0 (f := softD) (ei_seqQ rfl (ed_var rfl)) (fine_list sd).1 fun x hx => ⟨_, gd_name (List.mem_singleton.mpr rfl), ed_call (ea_cons (ed_var (d := x) rfl) ea_nil) rfl ⟨x, rfl, by have := ((fine_list sd).2 x hx).2; omega, ((fine_list sd).2 x hx).1, rfl⟩⟩).is (softA_map xs).symm).dat
      | tuple xs => exact ((ef_lc0 (f := softD) (ei_seqQ rfl (ed_var rfl)) (fine_tup sd).1 fun x hx => ⟨_, gd_name (List.mem_singleton.mpr rfl), ed_call (ea_cons (ed_var (d := x) rfl) ea_nil) rfl ⟨x, rfl, by have := ((fine_tup sd).2 x hx).2; omega, ((fine_tup sd).2 x hx).1, rfl⟩⟩).is (softA_map xs).symm).dat
      | _ => exact nomatch hb
    · refine (ed_var rfl).is ?_
      cases d <;> first | rfl | exact nomatch hb
abbrev s_L_near : Stmt := topS 14
theorem sc_L_near : FnScope ["_law_web_here", "_law_tag", "_law_found", "_law_one_so", "_law_two_so"] ["_law_web_here", "_law_tag"] (defScope s_L_near) := ⟨rfl, rfl, rfl, by decide +kernel, rfl, by decide +kernel, by decide +kernel⟩
theorem ok_wnear (X : Tx K mg "_law_near" ["_law_web_here", "_law_tag"] s_L_near) (T : Bt mg) : Df P w K mg base 1 "_law_near" ["_law_web_here", "_law_tag"] (spD K 2 domNearW) := by
  refine X.ok sc_L_near (fun vs H Q E h => h.1.trans rfl) (fun f cdv A outer s H vs Q E hr h => ?_)
  obtain ⟨hl, Hd, ds, r, e, hd, ⟨wide, nws, ms, t, rfl, W, ht, rfl⟩, q⟩ := h
  refine ⟨_, (pss_cons (ps_setLc (i := 2) (own := [("_law_one_so", 3), ("_law_two_so", 4)]) (g := gTup K 2 (gCons (gName 3) (gCons (gName 4) gNil))) (tt := _) rfl sc_L_near.nd rfl rfl (sw_true rfl rfl rfl (by decide +kernel)) (piTup K (pe_ix (ixS K) (pv 0) pe_int (fun _ _ => rfl))) (blkOk_by (N := ["_law_web_here", "_law_tag", "_law_found", "_law_one_so", "_law_two_so"]) (sc := defScope s_L_near) (by decide +kernel)) (fun _ _ _ _ _ => (pgTup K rfl (pgs_cons (pg_name (i := 3) sc_L_near.nd rfl (Or.inl rfl) (hf := .inr rfl)) (pgs_cons (pg_name (i := 4) sc_L_near.nd rfl (Or.inl rfl) (hf := .inr rfl)) pgs_nil)))) (fun _ _ _ _ _ => (pts_one (pt_cmpR (eqS K hr.units) (pv 3) (pv 1) (nomark _)))) (fun _ _ _ _ _ => (pv 4))) (pss_one (ps_ret (pe_callB (sortedSS K) (by rfl) T.sorted boot_sorted (pa_cons (pe_op op_cat (pv 2) (pe_lc (own := [("_law_one_so", 3), ("_law_two_so", 4)]) (g := gTup K 2 (gCons (gName 3) (gCons (gName 4) gNil))) (tt := _) rfl sc_L_near.nd (piTup K (pe_ix (ixS K) (pv 0) pe_int (fun _ _ => rfl))) (blkOk_by (N := ["_law_web_here", "_law_tag", "_law_found", "_law_one_so", "_law_two_so"]) (sc := defScope s_L_near) (by decide +kernel)) (fun _ _ _ _ _ => (pgTup K rfl (pgs_cons (pg_name (i := 3) sc_L_near.nd rfl (Or.inl rfl) (hf := .inr rfl)) (pgs_cons (pg_name (i := 4) sc_L_near.nd rfl (Or.inl rfl) (hf := .inr rfl)) pgs_nil)))) (fun _ _ _ _ _ => (pts_one (pt_cmpR (eqS K hr.units) (pv 4) (pv 1) (nomark _)))) (fun _ _ _ _ _ => (pv 3)))) pa_nil))))), ?_⟩
  refine run_d e hd ?_ q
  have hn : (ms.map pairM).length ≤ 100000 := by rw [List.length_map]; have := W.ml; omega
  refine sd_seq (sd_set (((ef_lc (p := fstIs t) (f := sndD) (ei_tup (ed_op (ed_var (d := webD wide nws ms) rfl) ed_int (rd_ixT rfl))) hn fun d hdm => ?_).is (found_eq ms t)).dat)) ?_
  · obtain ⟨p, hp, rfl⟩ := List.mem_map.mp hdm
    exact ⟨_, gd_two (by decide) (by decide), et_test (ed_op (ed_var rfl) (ed_var rfl) (rd_eqS (W.str (W.mem p hp).1) ht)), fun _ => ed_var rfl⟩
  refine sd_ret ((ef_sortS ((ef_op (ed_var rfl) (((ef_lc (p := sndIs t) (f := fstD) (ei_tup (ed_op (ed_var (d := webD wide nws ms) rfl) ed_int (rd_ixT rfl))) hn fun d hdm => ?_).is (found_eq2 ms t)).dat) (rf_cat ?_)).is ?_).rd ?_).dat)
  · obtain ⟨p, hp, rfl⟩ := List.mem_map.mp hdm
    exact ⟨_, gd_two (by decide) (by decide), et_test (ed_op (ed_var rfl) (ed_var rfl) (rd_eqS (W.str (W.mem p hp).2) ht)), fun _ => ed_var rfl⟩
  · have h1 := nearW_len ms t
    have h2 := W.ml
    unfold nearW at h1
    rw [List.length_append] at h1
    simp only [List.length_map] at h1 ⊢
    omega
  · exact List.map_append.symm
  · have h1 := nearW_len ms t
    have h2 := W.ml
    omega
abbrev s_L_tags : Stmt := topS 15
theorem sc_L_tags : FnScope ["_law_web_here", "_law_tag", "_law_spot"] ["_law_web_here"] (defScope s_L_tags) := ⟨rfl, rfl, rfl, by decide +kernel, rfl, by decide +kernel, by decide +kernel⟩
theorem ok_tags (X : Tx K mg "_law_tags" ["_law_web_here"] s_L_tags) (T : Bt mg) : Df P w K mg base 1 "_law_tags" ["_law_web_here"] (spD K 1 domTags) := by
  refine X.ok sc_L_tags (fun vs H Q E h => h.1.trans rfl) (fun f cdv A outer s H vs Q E hr h => ?_)
  obtain ⟨hl, Hd, ds, r, e, hd, ⟨wide, nws, ms, rfl, W, rfl⟩, q⟩ := h
  refine ⟨_, (pss_one (ps_ret (pe_lc (own := [("_law_tag", 1), ("_law_spot", 2)]) (g := gTup K 2 (gCons (gName 1) (gCons (gName 2) gNil))) (tt := tYes) rfl sc_L_tags.nd (piTup K (pe_ix (ixS K) (pv 0) pe_int (fun _ _ => rfl))) (blkOk_by (N := ["_law_web_here", "_law_tag", "_law_spot"]) (sc := defScope s_L_tags) (by decide +kernel)) (fun _ _ _ _ _ => (pgTup K rfl (pgs_cons (pg_name (i := 1) sc_L_tags.nd rfl (Or.inl rfl) (hf := .inr rfl)) (pgs_cons (pg_name (i := 2) sc_L_tags.nd rfl (Or.inl rfl) (hf := .inr rfl)) pgs_nil)))) (fun _ _ _ _ _ => pts_nil) (fun _ _ _ _ _ => (pv 1))))), ?_⟩
  refine run_d e hd ?_ q
  have hn : (nws.map stD).length ≤ 100000 := by rw [List.length_map]; have := W.nl; omega
  refine sd_ret (((ef_lc0 (f := fstD) (ei_tup (ed_op (ed_var (d := webD wide nws ms) rfl) ed_int (rd_ixT rfl))) hn fun d hdm => ?_).is ?_).dat)
  · obtain ⟨p, hp, rfl⟩ := List.mem_map.mp hdm
    exact ⟨_, gd_two (by decide) (by decide), ed_var rfl⟩
  · rw [List.map_map, List.map_map]
    rfl
end
end Law

namespace Law
open PySem PySem.Spec PyProof.Rows L2 DL
open Evl (Ex)
open RZ
section
variable {P : Program} {w : World} {K : PySem.W.Frag} {mg : Str → Option Value} {base : Heap}
abbrev s_L_is_path : Stmt := topS 18
theorem sc_L_is_path : FnScope ["_law_web_here", "_law_matter", "_law_bit", "_law_k"] ["_law_web_here", "_law_matter"] (defScope s_L_is_path) := ⟨rfl, rfl, rfl, by decide +kernel, rfl, by decide +kernel, by decide +kernel⟩
theorem ok_is_path (X : Tx K mg "_law_is_path" ["_law_web_here", "_law_matter"] s_L_is_path) (T : Bt mg) (D_L_tags : Df P w K mg base 1 "_law_tags" ["_law_web_here"] (spD K 1 domTags)) (D_L_near : Df P w K mg base 1 "_law_near" ["_law_web_here", "_law_tag"] (spD K 2 domNearW)) : Df P w K mg base 2 "_law_is_path" ["_law_web_here", "_law_matter"] (spD K 2 domPath) := by
  refine X.ok sc_L_is_path (fun vs H Q E h => h.1.trans rfl) (fun f cdv A outer s H vs Q E hr h => ?_)
  obtain ⟨hl, Hd, ds, r, e, hd, ⟨wide, nws, ms, th, rfl, W, hf, rfl⟩, q⟩ := h
  refine ⟨_, (pss_cons (ps_if (PW.pt (pw_or (pt_not (pt_val (pe_callB (isiS K) (by rfl) T.isinstance boot_isinstance (pa_cons (pv 1) (pa_cons (pe_bltn (v := .ty "tuple") (by rfl) T.tuple boot_tuple rfl) pa_nil))))) (pw_or (pt_cmpR (eqS K hr.units) (pe_callB (lenS K) (by rfl) T.len PySem.boot_len (pa_cons (pv 1) pa_nil)) pe_int (nomark _)) (pw_or1 (pt_cmpR (neS K hr.units) (pe_lc (own := [("_law_bit", 2)]) (g := gName 2) (tt := _) rfl sc_L_is_path.nd (piTup K (pv 1)) (blkOk_by (N := ["_law_web_here", "_law_matter", "_law_bit", "_law_k"]) (sc := defScope s_L_is_path) (by decide +kernel)) (fun _ _ _ _ _ => (pg_name (i := 2) sc_L_is_path.nd rfl (Or.inl rfl) (hf := .inr rfl))) (fun _ _ _ _ _ => (pts_one (pt_not (pt_val (pe_callB (isiS K) (by rfl) T.isinstance boot_isinstance (pa_cons (pv 2) (pa_cons (pe_bltn (v := .ty "str") (by rfl) T.str boot_str rfl) pa_nil))))))) (fun _ _ _ _ _ => (pv 2))) (pe_lst pa_nil) (nomark _)))))) (pss_one (ps_ret pe_bl)) pss_nil) (pss_cons (ps_if (pt_cmpR (neS K hr.units) (pe_lc (own := [("_law_bit", 2)]) (g := gName 2) (tt := _) rfl sc_L_is_path.nd (piTup K (pv 1)) (blkOk_by (N := ["_law_web_here", "_law_matter", "_law_bit", "_law_k"]) (sc := defScope s_L_is_path) (by decide +kernel)) (fun _ _ _ _ _ => (pg_name (i := 2) sc_L_is_path.nd rfl (Or.inl rfl) (hf := .inr rfl))) (fun _ _ _ _ _ => (pts_one (pt_cmpR (ninS K) (pv 2) (pe_def D_L_tags hr (by omega) (pa_cons (pv 0) pa_nil)) (by rfl)))) (fun _ _ _ _ _ => (pv 2))) (pe_lst pa_nil) (nomark _)) (pss_one (ps_ret pe_bl)) pss_nil) (pss_one (ps_ret (pe_cmpR (eqS K hr.units) (pe_lc (own := [("_law_k", 3)]) (g := gName 3) (tt := _) rfl sc_L_is_path.nd (pi_range1 (by rfl) T.range (pa_cons (pe_op op_sub (pe_callB (lenS K) (by rfl) T.len PySem.boot_len (pa_cons (pv 1) pa_nil)) pe_int) pa_nil)) (blkOk_by (N := ["_law_web_here", "_law_matter", "_law_bit", "_law_k"]) (sc := defScope s_L_is_path) (by decide +kernel)) (fun _ _ _ _ _ => (pg_name (i := 3) sc_L_is_path.nd rfl (Or.inl rfl) (hf := .inr rfl))) (fun _ _ _ _ _ => (pts_one (pt_cmpR (ninS K) (pe_ix (ixS K) (pv 1) (pe_op op_add (pv 3) pe_int) (fun _ _ => rfl)) (pe_def D_L_near hr (by omega) (pa_cons (pv 0) (pa_cons (pe_ix (ixS K) (pv 1) (pv 3) (fun _ _ => rfl)) pa_nil))) (by rfl)))) (fun _ _ _ _ _ => (pv 3))) (pe_lst pa_nil) (nomark _)))))), ?_⟩
  refine run_d e hd ?_ q
  cases th with
  | tuple xs =>
    have hx := fine_tup hf
    have hd64 := fine_depth hf
    have sh : ∀ p : PyData → Bool, SeqAt.shaped (.list ((xs.filter p).map id)) = true := fun p => by
      rw [List.map_id]
      exact fine_shaped (fine_mk_list (Nat.le_trans (List.length_filter_le _ _) hx.1) fun x hxm => ⟨(hx.2 x (List.mem_filter.mp hxm).1).1, by have := (hx.2 x (List.mem_filter.mp hxm).1).2; omega⟩)
    refine sd_ifR (b := false || (decide (((xs.length : Nat) : Int) = 0) || !((xs.filter fun x => !is_str x).map id).isEmpty)) (et_or ((et_not (et_val (ed_isi (ed_var rfl) (kb_tuple _)))).is rfl) fun _ => et_or (et_test (ed_op (ed_lenT (ed_var rfl)) ed_int rd_eqI)) fun _ => et_test (ed_op ((ef_lc (f := id) (ei_tup (ed_var rfl)) hx.1 fun x hxm => ⟨_, gd_name (List.mem_singleton.mpr rfl), et_not (et_val (ed_isi (ed_var rfl) (kb_str _))), fun _ => ed_var rfl⟩).dat) (ef_lst ea_nil (by decide)).dat (rd_neNil (sh _)))) (fun hb => ?_) (fun hb => ?_) (fun _ z => nomatch z)
    · refine ret_false ?_
      rw [Bool.false_or, List.map_id, filter_empty, Bool.not_not] at hb
      show (decide (xs.length ≠ 0) && (xs.all (strIn (nws.map (·.1))) && _)) = false
      rcases Bool.or_eq_true_iff.mp hb with h | h
      · have h0 : xs.length = 0 := by
          have := of_decide_eq_true h
          omega
        rw [decide_eq_false (by omega)]
        rfl
      · obtain ⟨x, hxm, hn⟩ := List.any_eq_true.mp h
        have : xs.all (strIn (nws.map (·.1))) = false := by
          rw [List.all_eq_false]
          refine ⟨x, hxm, ?_⟩
          cases x <;> first | exact Bool.false_ne_true | exact absurd hn Bool.false_ne_true
        rw [this, Bool.false_and, Bool.and_false]
    · rw [Bool.false_or, List.map_id, filter_empty, Bool.not_not, Bool.or_eq_false_iff] at hb
      have h0 : xs.length ≠ 0 := by
        have := of_decide_eq_false hb.1
        omega
      have hst : ∀ x ∈ xs, ∃ s, x = .str s := fun x hxm => by
        have := List.any_eq_false.mp hb.2 x hxm
        cases x <;> first | exact ⟨_, rfl⟩ | exact absurd rfl this
      refine sd_ifR (b := !((xs.filter fun x => !strIn (nws.map (·.1)) x).map id).isEmpty) (et_test (ed_op ((ef_lc (f := id) (ei_tup (ed_var rfl)) hx.1 fun x hxm => ⟨_, gd_name (List.mem_singleton.mpr rfl), ?_, fun _ => ed_var rfl⟩).dat) (ef_lst ea_nil (by decide)).dat (rd_neNil (sh _)))) (fun hb1 => ?_) (fun hb1 => ?_) (fun _ z => nomatch z)
      · obtain ⟨s, rfl⟩ := hst x hxm
        exact et_test (ed_op (ed_var rfl) (ed_call (ea_cons (ed_var rfl) ea_nil) rfl ⟨wide, nws, ms, rfl, W, rfl⟩) rd_niL)
      · refine ret_false ?_
        rw [List.map_id, filter_empty, Bool.not_not] at hb1
        obtain ⟨x, hxm, hn⟩ := List.any_eq_true.mp hb1
        have : xs.all (strIn (nws.map (·.1))) = false := by
          rw [List.all_eq_false]
          refine ⟨x, hxm, ?_⟩
          rw [Bool.not_eq_true'] at hn
          rw [hn]
          exact Bool.false_ne_true
        show (decide (xs.length ≠ 0) && (xs.all (strIn (nws.map (·.1))) && _)) = false
        rw [this, Bool.false_and, Bool.and_false]
      · rw [List.map_id, filter_empty, Bool.not_not] at hb1
        have hall : xs.all (strIn (nws.map (·.1))) = true := by
          rw [List.all_eq_true]
          intro x hxm
          have := List.any_eq_false.mp hb1 x hxm
          cases z : strIn (nws.map (·.1)) x <;> first | rfl | (rw [z] at this; exact absurd rfl this)
        have hstr : ∀ x ∈ xs, ∃ s, x = .str s ∧ s ∈ nws.map (·.1) := fun x hxm => by
          have := List.all_eq_true.mp hall x hxm
          cases x with
          | str s => exact ⟨s, rfl, of_decide_eq_true this⟩
          | _ => cases this
        have en : (((xs.length : Nat) : Int) - 1).toNat = xs.length - 1 := by omega
        have hrl : ((List.range (((xs.length : Nat) : Int) - 1).toNat).map fun (k : Nat) => PyData.int (k : Int)).length ≤ 100000 := by
          rw [List.length_map, List.length_range, en]
          have := hx.1
          omega
        refine sd_ret ((ed_op ((ef_lc (p := badK ms xs) (f := id) (ei_rng1 (ea_cons (ed_op (ed_lenT (ed_var rfl)) ed_int (rd_I0 fun _ => .int _)) ea_nil) (by have := hx.1; omega)) hrl fun x hxm => ⟨_, gd_name (List.mem_singleton.mpr rfl), ?_, fun _ => ed_var rfl⟩).dat) (ef_lst ea_nil (by decide)).dat (rd_eqNil ?_)).is ?_)
        · obtain ⟨k, hk, rfl⟩ := List.mem_map.mp hxm
          have hk' := List.mem_range.mp hk
          rw [en] at hk'
          have g1 : xs[k]? = some xs[k] := by simp
          have g2 : xs[k + 1]? = some xs[k + 1] := by simp
          obtain ⟨a, ea, ha⟩ := hstr xs[k] (List.getElem_mem _)
          obtain ⟨b, eb, hb'⟩ := hstr xs[k + 1] (List.getElem_mem _)
          rw [ea] at g1
          rw [eb] at g2
          refine (et_test (ed_op (ed_op (ed_var rfl) (ed_op (ed_var rfl) ed_int (rd_I0 (z := .int ((k : Int) + 1)) fun _ => .int _)) (rd_ixT (z := .str b) ?_)) (ed_call (ea_cons (ed_var rfl) (ea_cons (ed_op (ed_var rfl) (ed_var rfl) (rd_ixT (z := .str a) ?_)) ea_nil)) rfl ⟨wide, nws, ms, a, rfl, W, W.str ha, rfl⟩) rd_niL)).is ?_
          · exact atI_nat g2
          · exact atI_nat g1
          · simp only [badK, Int.toNat_natCast, g1, g2, stepOk]
            congr 1
            exact decide_eq_decide.mpr (sortS_mem.trans (nearW_mem.trans nearL_mem.symm))
        · refine fine_shaped (fine_mk_list (by rw [List.length_map]; exact Nat.le_trans (List.length_filter_le _ _) hrl) fun x hxm => ?_)
          rw [List.map_id] at hxm
          obtain ⟨k, _, rfl⟩ := List.mem_map.mp (List.mem_filter.mp hxm).1
          exact ⟨rfl, by simp [PyData.depth]⟩
        · show PyData.bool _ = PyData.bool (decide (xs.length ≠ 0) && (xs.all (strIn (nws.map (·.1))) && _))
          rw [List.map_id, filter_empty, en, range_zip, Bool.not_not, hall, decide_eq_true h0]
          rfl
  | _ =>
    refine sd_ifR (b := true) ((et_or (b := true) (c := true) ((et_not (et_val (ed_isi (ed_var rfl) (kb_tuple _)))).is rfl) fun z => nomatch z).is rfl) (fun _ => ret_false rfl) (fun z => nomatch z) (fun _ z => nomatch z)
abbrev s_L_square : Stmt := topS 16
theorem sc_L_square : FnScope ["_law_ties"] [] (defScope s_L_square) := ⟨rfl, rfl, rfl, by decide +kernel, rfl, by decide +kernel, by decide +kernel⟩
def squareW : List (Str × PyData) := [("a", .tuple [.int 0, .int 0]), ("b", .tuple [.int 0, .int 1]), ("c", .tuple [.int 1, .int 1]), ("d", .tuple [.int 1, .int 0])]
def squareM : List (Str × Str) := [("a", "b"), ("a", "d"), ("b", "c"), ("c", "d")]
def squareD : PyData := webD [.int 2, .int 2] squareW squareM
theorem square_ok : WebOk [.int 2, .int 2] squareW squareM := ⟨by decide +kernel, by decide +kernel, by decide, by decide, by decide, by decide +kernel, by decide +kernel, by decide +kernel⟩
theorem ok_square (X : Tx K mg "_law_square" [] s_L_square) (T : Bt mg) : Df P w K mg base 1 "_law_square" [] (spD K 0 fun ds r => ds = [] ∧ r = squareD) := by
  refine X.ok sc_L_square (fun vs H Q E h => h.1.trans rfl) (fun f cdv A outer s H vs Q E hr h => ?_)
  obtain ⟨hl, Hd, ds, r, e, hd, ⟨rfl, rfl⟩, q⟩ := h
  refine ⟨_, (pss_cons (ps_set (i := 0) sc_L_square.nd rfl (Or.inl rfl) (pe_tup (pa_cons (pe_tup (pa_cons pe_str (pa_cons pe_str pa_nil))) (pa_cons (pe_tup (pa_cons pe_str (pa_cons pe_str pa_nil))) (pa_cons (pe_tup (pa_cons pe_str (pa_cons pe_str pa_nil))) (pa_cons (pe_tup (pa_cons pe_str (pa_cons pe_str pa_nil))) pa_nil)))))) (pss_one (ps_ret (pe_tup (pa_cons (pe_tup (pa_cons pe_int (pa_cons pe_int pa_nil))) (pa_cons (pe_tup (pa_cons (pe_tup (pa_cons pe_str (pa_cons (pe_tup (pa_cons pe_int (pa_cons pe_int pa_nil))) pa_nil))) (pa_cons (pe_tup (pa_cons pe_str (pa_cons (pe_tup (pa_cons pe_int (pa_cons pe_int pa_nil))) pa_nil))) (pa_cons (pe_tup (pa_cons pe_str (pa_cons (pe_tup (pa_cons pe_int (pa_cons pe_int pa_nil))) pa_nil))) (pa_cons (pe_tup (pa_cons pe_str (pa_cons (pe_tup (pa_cons pe_int (pa_cons pe_int pa_nil))) pa_nil))) pa_nil))))) (pa_cons (pv 0) pa_nil))))))), ?_⟩
  refine run_d e hd ?_ q
  refine sd_seq (sd_set (d := .tuple (squareM.map pairM)) (by show ED K _ _ (PyData.tuple [.tuple [.str "a", .str "b"], .tuple [.str "a", .str "d"], .tuple [.str "b", .str "c"], .tuple [.str "c", .str "d"]]); repeat' first | exact ed_int | exact ed_str | exact ea_nil | refine ea_cons ?_ ?_ | refine ed_tup ?_ (Nat.le_of_ble_eq_true rfl) | exact ed_var rfl)) (sd_ret ?_)
  show ED K _ _ (PyData.tuple [.tuple [.int 2, .int 2], .tuple [.tuple [.str "a", .tuple [.int 0, .int 0]], .tuple [.str "b", .tuple [.int 0, .int 1]], .tuple [.str "c", .tuple [.int 1, .int 1]], .tuple [.str "d", .tuple [.int 1, .int 0]]], .tuple (squareM.map pairM)])
  repeat' first | exact ed_int | exact ed_str | exact ea_nil | refine ea_cons ?_ ?_ | refine ed_tup ?_ (Nat.le_of_ble_eq_true rfl) | exact ed_var rfl
end
end Law

namespace Law
open PySem PySem.Spec PyProof.Rows L2 DL
open Evl (Ex)
open RZ
section
variable {P : Program} {w : World} {K : PySem.W.Frag} {mg : Str → Option Value} {base : Heap}
abbrev s_L_pick : Stmt := topS 10
theorem sc_L_pick : FnScope ["_law_tin", "_law_pool", "_law_size_so", "_law_turn", "_law_rest", "_law_found"] ["_law_tin", "_law_pool", "_law_size_so"] (defScope s_L_pick) := ⟨rfl, rfl, rfl, by decide +kernel, rfl, by decide +kernel, by decide +kernel⟩
def prePick (xs : List PyData) : Prop := ∃ ds s, xs = [.list ds, .int s] ∧ ds.length ≤ 1000 ∧ 0 ≤ s ∧ s ≤ 1000
def domPick (xs : List PyData) (r : PyData) : Prop := ∃ ds s qs rest, xs = [.list ds, .int s] ∧ r = .list qs ∧ (qs ++ rest).Perm ds ∧ (qs.length : Int) ≤ s
theorem ok_pick (X : Tx K mg "_law_pick" ["_law_tin", "_law_pool", "_law_size_so"] s_L_pick) (T : Bt mg) (D_L_take : Df P w K mg base 1 "_law_take" ["_law_tin", "_law_top_so"] spTake) : Df P w K mg base 2 "_law_pick" ["_law_tin", "_law_pool", "_law_size_so"] (spB K 2 1000 prePick domPick) := by
  refine X.ok sc_L_pick (fun vs H Q E h => h.1.trans rfl) (fun f cdv A outer s H vs Q E hr h => ?_)
  obtain ⟨hl, p, c, Hd, xs, o, ws, rfl, e, k0, ho, hb, hc, hd, ⟨ds, z, rfl, h1, h2, h3⟩, q⟩ := h
  refine ⟨_, (pss_cons (ps_par (i := 4) (j := 5) (by rfl) sc_L_pick.nd rfl rfl (by decide) rfl rfl (pa_cons (pe_callTy (listS K) (by rfl) T.list boot_list (pa_cons (pv 1) pa_nil)) (pa_cons (pe_lst pa_nil) pa_nil)) (by rfl)) (pss_cons (ps_for PassesOwn.never rfl (pi_range1 (by rfl) T.range (pa_cons (pe_callB (call_min2 rfl) (by rfl) T.min (by decide +kernel) (pa_cons (pv 2) (pa_cons (pe_callB (lenS K) (by rfl) T.len PySem.boot_len (pa_cons (pv 4) pa_nil)) pa_nil))) pa_nil)) (pg_name (i := 3) sc_L_pick.nd rfl (Or.inl rfl)) (pss_one (ps_expr (pe_bm PySem.F.plainAttrs_list PySem.F.slot_list_append PySem.F.type_list_append mt_append (pv 5) (pa_cons (pe_bm PySem.F.plainAttrs_list PySem.F.slot_list_pop PySem.F.type_list_pop mt_popAt (pv 4) (pa_cons (pe_def D_L_take hr (by omega) (pa_cons (pv 0) (pa_cons (pe_callB (lenS K) (by rfl) T.len PySem.boot_len (pa_cons (pv 4) pa_nil)) pa_nil))) pa_nil)) pa_nil))))) (pss_one (ps_ret (pv 5))))), ?_⟩
  refine run_b (dom := domPick) e k0 ho hb hc hd (by decide) ?_ q
  refine (sb_seq (n := 0) (m := 1000) (sb_par (i := 4) (j := 5) (ef_listR (ed_var rfl).rd) (ef_lst ea_nil (by decide))) fun Δ hΔ => ?_)
  subst hΔ
  obtain ⟨n, en⟩ : ∃ n : Int, (if (ds.length : Int) < z then (ds.length : Int) else z) = n := ⟨_, rfl⟩
  have hn : n ≤ ds.length ∧ 0 ≤ n ∧ n ≤ z := by rw [← en]; split <;> omega
  refine (sb_seq (n := 0 + 1000 * 1) (m := 0) (sb_for (M := 1000) (m := 1) (fun k Θ => ∃ x rs fs, Θ = [.val (.ref p), .dat (.list ds), .dat (.int z), x, .own rs, .own fs] ∧ (fs ++ rs).Perm ds ∧ fs.length = k) (EI.bb (ei_rng1 (n := n) (ea_cons ((ed_cb (z := .int (if (ds.length : Int) < z then (ds.length : Int) else z)) (ea_cons (ed_var (d := .int z) rfl) (ea_cons (ed_lenR (er_own (ds := ds) rfl)) ea_nil)) ?_).is (congrArg PyData.int en)) ea_nil) (by omega))) ⟨.any, ds, [], rfl, .refl _, rfl⟩ ?_) fun Δ hΔ => ?_).le (by decide)
  · intro Hd H vs ex hv Q q
    cases hv with
    | cons g1 hv => cases hv with
      | cons g2 hv =>
        cases hv
        cases g1
        cases g2
        exact ⟨_, _, rfl, q _ Hd H (.refl ex) (.int _)⟩
  · rintro rs rfl
    refine ⟨by rw [List.length_map, List.length_range]; omega, ?_⟩
    rintro k r Θ hk ⟨x, rs, fs, rfl, hp, hf⟩
    have hkn : k < n.toNat := by
      have := (List.getElem?_eq_some_iff.mp hk).1
      rwa [List.length_map, List.length_range] at this
    have hpl := hp.length_eq
    rw [List.length_append] at hpl
    refine ⟨_, [3], gdb_name (List.mem_singleton.mpr rfl), (sb_popapp (i := 4) (j := 5) (z := 0) (by decide) rfl rfl rfl (by omega) (by omega) (by omega)).imp ?_ (fun _ z => z)⟩
    rintro Δ ⟨m, y, hy, rfl⟩
    refine ⟨_, rs.eraseIdx m, fs ++ [y], rfl, ?_, by rw [List.length_append, hf]; rfl⟩
    refine List.Perm.trans ?_ hp
    rw [List.append_assoc]
    refine List.Perm.append_left fs ?_
    obtain ⟨hm, he⟩ := List.getElem?_eq_some_iff.mp hy
    have e1 : rs = rs.take m ++ y :: rs.drop (m + 1) := by
      conv => lhs; rw [← List.take_append_drop m rs, List.drop_eq_getElem_cons hm, he]
    rw [List.eraseIdx_eq_take_drop_succ]
    conv => rhs; rw [e1]
    show (y :: (rs.take m ++ rs.drop (m + 1))).Perm (rs.take m ++ y :: rs.drop (m + 1))
    exact List.perm_middle.symm
  · obtain ⟨rs, rfl, x, rest, fs, rfl, hp, hf⟩ := hΔ
    refine sb_freeze (i := 5) rfl ((sb_ret (ED.b (ed_var (d := .list fs) rfl))).imp (fun _ z => z) ?_)
    rintro r rfl
    refine ⟨ds, z, fs, rest, rfl, rfl, hp, ?_⟩
    rw [List.length_map, List.length_range] at hf
    omega
end
end Law

namespace Law
open PySem PySem.Spec PyProof.Rows L2 DL
open Evl (Ex)
open RZ
section
variable {P : Program} {w : World} {K : PySem.W.Frag} {mg : Str → Option Value} {base : Heap}
abbrev s_L_web : Stmt := topS 13
theorem sc_L_web : FnScope ["_law_tin", "_law_tall", "_law_breadth", "_law_most", "_law_ties_so", "_law_tags_here", "_law_wide", "_law_mine", "_law_folk", "_law_pairs", "_law_ties", "_law_k", "_law_tag", "_law_letter", "_law_lap", "_law_mate", "_law_high_so"] ["_law_tin", "_law_tall", "_law_breadth", "_law_most", "_law_ties_so"] (defScope s_L_web) := ⟨rfl, rfl, rfl, by decide +kernel, rfl, by decide +kernel, by decide +kernel⟩
def tagsL : List Str := ["sa", "sb", "sc", "sd", "se", "sf", "sg", "sh", "si", "sj", "sk", "sl", "sm", "sn", "so", "sp", "sq", "sr", "ss", "st"]
theorem tags_ok : tagsL.Nodup ∧ (∀ s ∈ tagsL, PyData.strOk s = true) := by decide +kernel
def sPlus : PyData → PyData
  | .str t => .str ("s" ++ t)
  | _ => .none
theorem tags_map : ((("abcdefghijklmnopqrst" : Str).cps.toList.map fun c => PyData.str ⟨#[c]⟩).map sPlus) = tagsL.map PyData.str := by rfl
def preWeb (xs : List PyData) : Prop := ∃ tall br most ties : Int, xs = [.int tall, .int br, .int most, .int ties] ∧ 1 ≤ tall ∧ tall ≤ 20 ∧ 1 ≤ br ∧ br ≤ 1000 ∧ 2 ≤ most ∧ most ≤ 100000 ∧ 0 ≤ ties ∧ ties ≤ 31
def domWeb (xs : List PyData) (r : PyData) : Prop := ∃ wide nws ms, r = webD wide nws ms ∧ WebOk wide nws ms
def webG (p : Addr) (tall br most ties : Int) (tags wide mine folk pairs a b : G) : List G := [.val (.ref p), .dat (.int tall), .dat (.int br), .dat (.int most), .dat (.int ties), tags, wide, mine, folk, pairs, .any, a, b, .any, .any, .any, .any]
theorem ok_web (X : Tx K mg "_law_web" ["_law_tin", "_law_tall", "_law_breadth", "_law_most", "_law_ties_so"] s_L_web) (T : Bt mg) (D_L_take : Df P w K mg base 1 "_law_take" ["_law_tin", "_law_top_so"] spTake) (D_L_pick : Df P w K mg base 2 "_law_pick" ["_law_tin", "_law_pool", "_law_size_so"] (spB K 2 1000 prePick domPick)) : Df P w K mg base 3 "_law_web" ["_law_tin", "_law_tall", "_law_breadth", "_law_most", "_law_ties_so"] (spB K 4 10000000 preWeb domWeb) := by
  refine X.ok sc_L_web (fun vs H Q E h => h.1.trans rfl) (fun f cdv A outer s H vs Q E hr h => ?_)
  obtain ⟨hl, p, c, Hd, xs, o, ws, rfl, e, k0, ho, hb, hc, hd, ⟨tall, br, most, ties, rfl, i1, i2, i3, i4, i5, i6, i7, i8⟩, q⟩ := h
  refine ⟨_, (pss_cons (ps_setLc (i := 5) (own := [("_law_letter", 13)]) (g := gName 13) (tt := tYes) rfl sc_L_web.nd rfl rfl (sw_true rfl rfl rfl (by decide +kernel)) (pi_str pe_str) (blkOk_by (N := ["_law_tin", "_law_tall", "_law_breadth", "_law_most", "_law_ties_so", "_law_tags_here", "_law_wide", "_law_mine", "_law_folk", "_law_pairs", "_law_ties", "_law_k", "_law_tag", "_law_letter", "_law_lap", "_law_mate", "_law_high_so"]) (sc := defScope s_L_web) (by decide +kernel)) (fun _ _ _ _ _ => (pg_name (i := 13) sc_L_web.nd rfl (Or.inl rfl) (hf := .inr rfl))) (fun _ _ _ _ _ => pts_nil) (fun _ _ _ _ _ => (pe_op op_add_str pe_str (pv 13)))) (pss_cons (ps_set (i := 6) sc_L_web.nd rfl (Or.inr rfl) (pe_callTy (tupS K) (by rfl) T.tuple boot_tuple (pa_cons (pe_lc (own := [("_law_lap", 14)]) (g := gName 14) (tt := tYes) rfl sc_L_web.nd (pi_range1 (by rfl) T.range (pa_cons (pe_op op_add pe_int (pe_def D_L_take hr (by omega) (pa_cons (pv 0) (pa_cons (pv 2) pa_nil)))) pa_nil)) (blkOk_by (N := ["_law_tin", "_law_tall", "_law_breadth", "_law_most", "_law_ties_so", "_law_tags_here", "_law_wide", "_law_mine", "_law_folk", "_law_pairs", "_law_ties", "_law_k", "_law_tag", "_law_letter", "_law_lap", "_law_mate", "_law_high_so"]) (sc := defScope s_L_web) (by decide +kernel)) (fun _ _ _ _ _ => (pg_name (i := 14) sc_L_web.nd rfl (Or.inl rfl) (hf := .inr rfl))) (fun _ _ _ _ _ => pts_nil) (fun _ _ _ _ _ => (pe_op op_add pe_int (pe_def D_L_take hr (by omega) (pa_cons (pv 0) (pa_cons (pe_op op_sub (pv 3) pe_int) pa_nil)))))) pa_nil))) (pss_cons (ps_set (i := 7) sc_L_web.nd rfl (Or.inl rfl) (pe_slice (slL K) (pv 5) po_none (po_some (pe_op op_add pe_int (pe_def D_L_take hr (by omega) (pa_cons (pv 0) (pa_cons (pv 1) pa_nil))))))) (pss_cons (ps_set (i := 8) sc_L_web.nd rfl (Or.inl rfl) (pe_callTy (tupS K) (by rfl) T.tuple boot_tuple (pa_cons (pe_lc (own := [("_law_tag", 12)]) (g := gName 12) (tt := tYes) rfl sc_L_web.nd (piList K (pv 7)) (blkOk_by (N := ["_law_tin", "_law_tall", "_law_breadth", "_law_most", "_law_ties_so", "_law_tags_here", "_law_wide", "_law_mine", "_law_folk", "_law_pairs", "_law_ties", "_law_k", "_law_tag", "_law_letter", "_law_lap", "_law_mate", "_law_high_so"]) (sc := defScope s_L_web) (by decide +kernel)) (fun _ _ _ _ _ => (pg_name (i := 12) sc_L_web.nd rfl (Or.inl rfl) (hf := .inr rfl))) (fun _ _ _ _ _ => pts_nil) (fun _ _ _ _ _ => (pe_tup (pa_cons (pv 12) (pa_cons (pe_callTy (tupS K) (by rfl) T.tuple boot_tuple (pa_cons (pe_lc (own := [("_law_high_so", 16)]) (g := gName 16) (tt := tYes) rfl sc_L_web.nd (piTup K (pv 6)) (blkOk_in (N := ["_law_tin", "_law_tall", "_law_breadth", "_law_most", "_law_ties_so", "_law_tags_here", "_law_wide", "_law_mine", "_law_folk", "_law_pairs", "_law_ties", "_law_k", "_law_tag", "_law_letter", "_law_lap", "_law_mate", "_law_high_so"]) (by decide +kernel)) (fun _ _ _ _ _ => (pg_name (i := 16) sc_L_web.nd rfl (Or.inl rfl) (hf := .inr rfl))) (fun _ _ _ _ _ => pts_nil) (fun _ _ _ _ _ => (pe_def D_L_take hr (by omega) (pa_cons (pv 0) (pa_cons (pv 16) pa_nil))))) pa_nil)) pa_nil))))) pa_nil))) (pss_cons (ps_set (i := 9) sc_L_web.nd rfl (Or.inl rfl) (pe_lst pa_nil)) (pss_cons (ps_for PassesOwn.never rfl (piEnum K (by rfl) T.enumerate (pa_cons (pv 7) pa_nil)) (pgTup K rfl (pgs_cons (pg_name (i := 11) sc_L_web.nd rfl (Or.inl rfl)) (pgs_cons (pg_name (i := 12) sc_L_web.nd rfl (Or.inr rfl)) pgs_nil))) (pss_one (ps_set (i := 9) sc_L_web.nd rfl (Or.inl rfl) (pe_op op_cat (pv 9) (pe_lc (own := [("_law_mate", 15)]) (g := gName 15) (tt := tYes) rfl sc_L_web.nd (piList K (pe_slice (slL K) (pv 7) (po_some (pe_op op_add (pv 11) pe_int)) po_none)) (blkOk_by (N := ["_law_tin", "_law_tall", "_law_breadth", "_law_most", "_law_ties_so", "_law_tags_here", "_law_wide", "_law_mine", "_law_folk", "_law_pairs", "_law_ties", "_law_k", "_law_tag", "_law_letter", "_law_lap", "_law_mate", "_law_high_so"]) (sc := defScope s_L_web) (by decide +kernel)) (fun _ _ _ _ _ => (pg_name (i := 15) sc_L_web.nd rfl (Or.inl rfl) (hf := .inr rfl))) (fun _ _ _ _ _ => pts_nil) (fun _ _ _ _ _ => (pe_tup (pa_cons (pv 12) (pa_cons (pv 15) pa_nil))))))))) (pss_cons (ps_set (i := 10) sc_L_web.nd rfl (Or.inl rfl) (pe_def D_L_pick hr (by omega) (pa_cons (pv 0) (pa_cons (pv 9) (pa_cons (pe_callB (call_min2 rfl) (by rfl) T.min (by decide +kernel) (pa_cons (pe_callB (lenS K) (by rfl) T.len PySem.boot_len (pa_cons (pv 9) pa_nil)) (pa_cons (pe_def D_L_take hr (by omega) (pa_cons (pv 0) (pa_cons (pe_op op_add (pv 4) pe_int) pa_nil))) pa_nil))) pa_nil))))) (pss_one (ps_ret (pe_tup (pa_cons (pv 6) (pa_cons (pv 8) (pa_cons (pe_callTy (tupS K) (by rfl) T.tuple boot_tuple (pa_cons (pe_callB (cr_sortedTS K) (by rfl) T.sorted boot_sorted (pa_cons (pv 10) pa_nil)) pa_nil)) pa_nil))))))))))))), ?_⟩
  refine run_b (dom := domWeb) e k0 ho hb hc hd (by decide) ?_ q
  show SB K p _ (webG p tall br most ties .any .any .any .any .any .any .any) _ _ _
  refine SB.le (n := 0 + (1000000 + (1000 + (2000000 + (0 + ((0 + 20 * 0) + (1001 + 0))))))) ?_ (by decide)
  -- tags
  refine sb_seq (sb_set (ED.b ((ef_lc0 (f := sPlus) (ei_str ed_str) (by decide) fun d hdm => ⟨_, gd_name (List.mem_singleton.mpr rfl), ?_⟩).is tags_map).dat)) fun Δ hΔ => ?_
  · obtain ⟨c, _, rfl⟩ := List.mem_map.mp hdm
    exact ed_op (r := glueR) ed_str (ed_var rfl) (rd_catS (by show 1 + 1 ≤ 100000; decide))
  obtain ⟨_, rfl, rfl⟩ := hΔ
  -- sizes
  refine sb_seq (sb_set (R := fun r => ∃ wide : List PyData, r = .tuple wide ∧ wide.length ≤ 1000 ∧ ∀ x ∈ wide, ∃ k : Int, x = .int k ∧ 2 ≤ k ∧ k ≤ most) ((eb_cb (n := 1000000) (S := fun rs => ∃ wide : List PyData, rs = [.list wide] ∧ wide.length ≤ 1000 ∧ ∀ x ∈ wide, ∃ k : Int, x = .int k ∧ 2 ≤ k ∧ k ≤ most) ?_ fun xs hx => ?_))) fun Δ hΔ => ?_
  · refine EAB.imp (eab_cons (R := fun r => ∃ wide : List PyData, r = .list wide ∧ wide.length ≤ 1000 ∧ ∀ x ∈ wide, ∃ k : Int, x = .int k ∧ 2 ≤ k ∧ k ≤ most) (m := 0) (S := fun rs => rs = []) (EB.le (n := 0 + 1 + 0 + 1000 * (0 + 1)) (EB.imp (eb_lc (M := 1000) (Re := fun _ q => ∃ k : Int, q = .int k ∧ 2 ≤ k ∧ k ≤ most) (eib_rng1 (M := 1000) (eab_cons (R := fun r => ∃ k : Int, r = .int k ∧ 0 ≤ k ∧ k ≤ 1000) (eb_op (ED.b ed_int) (eb_take rfl (ed_var (d := .int br) rfl) i3 (by omega)) ?_) eab_nil) ?_ (by decide)) (fun rs hrs => ⟨hrs.1, fun r hr => ⟨_, gdb_name (List.mem_singleton.mpr rfl), eb_op (ED.b ed_int) (eb_take rfl (ed_op (ed_var (d := .int most) rfl) ed_int (rd_I0 (z := .int (most - 1)) fun _ => .int _)) (by omega) (by omega)) ?_⟩⟩) (by decide)) ?_) (by decide)) eab_nil) ?_
    · rintro x y rfl ⟨k, rfl, a1, a2⟩
      exact ⟨.int (1 + k), rd_I0 fun _ => .int _, 1 + k, rfl, by omega, by omega⟩
    · rintro xs ⟨r, rr, rfl, ⟨k, rfl, a1, a2⟩, rfl⟩
      exact ⟨k, rfl, a1, a2⟩
    · rintro x y rfl ⟨k, rfl, a1, a2⟩
      exact ⟨.int (2 + k), rd_I0 fun _ => .int _, 2 + k, rfl, by omega, by omega⟩
    · rintro r ⟨rs, qs, rfl, ⟨hl, _⟩, hp⟩
      refine ⟨qs, rfl, by rw [← hp.length]; exact hl, fun x hx => ?_⟩
      obtain ⟨k, hk⟩ := List.getElem?_of_mem hx
      obtain ⟨_, _, h⟩ := pairGot hp hk
      exact h
    · rintro rs ⟨r, rr, rfl, ⟨wide, rfl, h1, h2⟩, rfl⟩
      exact ⟨wide, rfl, h1, h2⟩
  · obtain ⟨wide, rfl, h1, h2⟩ := hx
    exact ⟨_, cd_tupL, wide, rfl, h1, h2⟩
  obtain ⟨_, ⟨wide, rfl, wl, wi⟩, rfl⟩ := hΔ
  -- names
  refine sb_seq (sb_set (EB.le (n := 0 + 1) (eb_slTo (ed_var (d := .list (tagsL.map PyData.str)) rfl) (R := fun r => ∃ k : Int, r = .int k ∧ 1 ≤ k ∧ k ≤ 20) (eb_op (ED.b ed_int) (eb_take rfl (ed_var (d := .int tall) rfl) i1 (by omega)) ?_) ?_) (by decide))) fun Δ hΔ => ?_
  · rintro x y rfl ⟨k, rfl, a1, a2⟩
    exact ⟨.int (1 + k), rd_I0 fun _ => .int _, 1 + k, rfl, by omega, by omega⟩
  · rintro r ⟨k, rfl, _⟩
    exact ⟨k, rfl⟩
  obtain ⟨_, ⟨k, rfl, _, e, k1, k2⟩, rfl⟩ := hΔ
  cases e
  obtain ⟨ns, ens⟩ : ∃ ns, tagsL.take k.toNat = ns := ⟨_, rfl⟩
  have enp : cutD (tagsL.map PyData.str) none (some k) = ns.map PyData.str := by
    rw [cutD_take _ _ (by omega), ← List.map_take, ens]
  rw [enp]
  have nsub : ns.Sublist tagsL := ens ▸ List.take_sublist _ _
  have nl20 : ns.length ≤ 20 := nsub.length_le
  have nl1 : 1 ≤ ns.length := by
    rw [← ens, List.length_take]
    have : tagsL.length = 20 := rfl
    omega
  -- states
  refine sb_seq (sb_set (R := fun r => ∃ nws : List (Str × PyData), r = .tuple (nws.map stD) ∧ nws.map (·.1) = ns ∧ ∀ p ∈ nws, fine p.2 = true ∧ p.2.depth ≤ 1) (EB.le (n := 0 + 1000 * (0 + (0 + 1000 * 1 + 0 + 0)) + 0) (eb_cb (S := fun rs => ∃ nws : List (Str × PyData), rs = [.list (nws.map stD)] ∧ nws.map (·.1) = ns ∧ ∀ p ∈ nws, fine p.2 = true ∧ p.2.depth ≤ 1) (EAB.imp (eab_cons (eb_lc (M := 1000) (Re := fun r q => ∃ s w, r = .str s ∧ q = .tuple [.str s, w] ∧ fine w = true ∧ w.depth ≤ 1) (EI.bb (ei_list (ed_var (d := .list (ns.map PyData.str)) rfl))) (fun rs hrs => ?_) (by decide)) eab_nil) ?_) fun xs hx => ?_) (by decide))) fun Δ hΔ => ?_
  · subst hrs
    refine ⟨by rw [List.length_map]; omega, fun r hr => ?_⟩
    obtain ⟨s, hs, rfl⟩ := List.mem_map.mp hr
    refine ⟨_, gdb_name (List.mem_singleton.mpr rfl), EB.imp (eb_tup (S := fun rs => ∃ w, rs = [.str s, w] ∧ fine w = true ∧ w.depth ≤ 1) (EAB.imp (eab_cons (ED.b (ed_var (d := .str s) rfl)) (eab_cons (R := fun r => fine r = true ∧ r.depth ≤ 1) (eb_cb (S := fun rs => ∃ qs : List PyData, rs = [.list qs] ∧ qs.length ≤ 1000 ∧ ∀ x ∈ qs, ∃ j : Int, x = .int j) (EAB.imp (eab_cons (eb_lc (M := 1000) (Re := fun _ q => ∃ j : Int, q = .int j) (EI.bb (ei_tup (ed_var (d := .tuple wide) rfl))) (fun rs hrs => ⟨by rw [hrs]; exact wl, fun r hr => ?_⟩) (by decide)) eab_nil) ?_) ?_) eab_nil)) ?_) ?_) ?_⟩
    · rw [hrs] at hr
      obtain ⟨top, rfl, t1, t2⟩ := wi r hr
      exact ⟨_, gdb_name (List.mem_singleton.mpr rfl), EB.imp (eb_take rfl (ed_var (d := .int top) rfl) (by omega) (by omega)) fun r ⟨j, h, _⟩ => ⟨j, h⟩⟩
    · rintro rs ⟨r, rr, rfl, ⟨rs, qs, rfl, rfl, hp⟩, rfl⟩
      refine ⟨qs, rfl, by rw [← hp.length]; exact wl, fun x hx => ?_⟩
      obtain ⟨j, hj⟩ := List.getElem?_of_mem hx
      obtain ⟨_, _, h⟩ := pairGot hp hj
      exact h
    · rintro xs ⟨qs, rfl, hl, hi⟩
      have hd : (PyData.tuple qs).depth ≤ 0 + 1 := depth_tup fun x hx => by
        obtain ⟨j, rfl⟩ := hi x hx
        simp [PyData.depth]
      refine ⟨_, cd_tupL, fine_mk_tup (by omega) (fun x hx => ?_), hd⟩
      obtain ⟨j, rfl⟩ := hi x hx
      exact ⟨rfl, by simp [PyData.depth]⟩
    · rintro rs ⟨r, rr, rfl, rfl, w, rr', rfl, ⟨f1, f2⟩, rfl⟩
      exact ⟨w, rfl, f1, f2⟩
    · rintro xs ⟨w, rfl, _⟩
      exact Nat.le_of_ble_eq_true rfl
    · rintro r ⟨xs, rfl, w, rfl, f1, f2⟩
      exact ⟨s, w, rfl, rfl, f1, f2⟩
  · rintro rs ⟨r, rr, rfl, ⟨rs, qs, rfl, rfl, hp⟩, rfl⟩
    obtain ⟨nws, rfl, h1, h2⟩ := states_of hp
    exact ⟨nws, rfl, h1, h2⟩
  · obtain ⟨nws, rfl, h1, h2⟩ := hx
    exact ⟨_, cd_tupL, nws, rfl, h1, h2⟩
  obtain ⟨_, ⟨nws, rfl, en, fw⟩, rfl⟩ := hΔ
  -- pairs
  refine sb_seq (sb_set (ED.b (ef_lst ea_nil (by decide)).dat)) fun Δ hΔ => ?_
  obtain ⟨_, rfl, rfl⟩ := hΔ
  refine sb_seq (n := 0 + 20 * 0) (sb_for (M := 20) (m := 0) (fun j Θ => ∃ a b, Θ = webG p tall br most ties (.dat (.list (tagsL.map PyData.str))) (.dat (.tuple wide)) (.dat (.list (ns.map PyData.str))) (.dat (.tuple (nws.map stD))) (.dat (.list ((pairsN ns j).map pairM))) a b) (EI.bb (ei_enum (ea_cons (ed_var (d := .list (ns.map PyData.str)) rfl) ea_nil))) ⟨.any, .any, rfl⟩ ?_) fun Δ hΔ => ?_
  · rintro rs rfl
    refine ⟨by unfold enumD; rw [zipD_len]; simp only [List.length_map, List.length_range]; omega, ?_⟩
    rintro j r Θ hj ⟨a, b, rfl⟩
    obtain ⟨x, y, hx, hy, rfl⟩ := zipD_get hj
    rw [List.getElem?_map] at hx hy
    obtain ⟨x', hx', rfl⟩ := Option.map_eq_some_iff.mp hx
    obtain ⟨t, ht, rfl⟩ := Option.map_eq_some_iff.mp hy
    have hjl : j < ns.length := (List.getElem?_eq_some_iff.mp ht).1
    have exj : x' = j := by
      rw [List.getElem?_range (by rw [List.length_map]; exact hjl)] at hx'
      exact (Option.some.inj hx').symm
    subst exj
    have pl := pairsN_len nl20 x'
    refine ⟨_, [11, 12], gdb_two (by decide) (by decide), (sb_set (ED.b (EF.is (es := (pairsN ns (x' + 1)).map pairM) (ef_op (ed_var (d := .list ((pairsN ns x').map pairM)) rfl) (((ef_lc0 (f := fun u => .tuple [.str t, u]) (ei_list (((ef_sl (ed_var (d := .list (ns.map PyData.str)) rfl) (eo_int (ed_op (ed_var (d := .int (x' : Int)) rfl) ed_int (rd_I0 (z := .int ((x' : Int) + 1)) fun _ => .int _))) eo_no).is (cutD_drop _ (x' + 1))).dat)) ?_ fun u hu => ⟨_, gd_name (List.mem_singleton.mpr rfl), ed_tup (ea_cons (ed_var rfl) (ea_cons (ed_var rfl) ea_nil)) (Nat.le_of_ble_eq_true rfl)⟩)).dat) (rf_cat ?_)) ?_).dat)).imp ?_ (fun _ z => z)⟩
    · rw [List.length_drop, List.length_map]; omega
    · simp only [List.length_map, List.length_drop]; omega
    · rw [pairsN_succ ht, List.map_append, List.map_map, ← List.map_drop, List.map_map]
      rfl
    · rintro Δ ⟨_, rfl, rfl⟩
      exact ⟨_, _, rfl⟩
  obtain ⟨_, rfl, a, b, rfl⟩ := hΔ
  have elen : (enumD (ns.map PyData.str)).length = ns.length := by unfold enumD; rw [zipD_len]; simp
  rw [elen]
  have plen : (pairsN ns ns.length).length ≤ 400 := by have := pairsN_len nl20 ns.length; omega
  -- moves
  refine sb_seq (sb_set (EB.le (n := 0 + (0 + (0 + 1 + 0) + 0) + 1000) (eb_callB (ar := 2) (pre := prePick) (dom := domPick) (S := fun xs => ∃ z : Int, xs = [.list ((pairsN ns ns.length).map pairM), .int z] ∧ 0 ≤ z ∧ z ≤ ties) rfl (EAB.imp (eab_cons (ED.b (ed_var rfl)) (eab_cons (R := fun r => ∃ z : Int, r = .int z ∧ 0 ≤ z ∧ z ≤ ties) (eb_cb (S := fun xs => ∃ z : Int, xs = [.int ((pairsN ns ns.length).length : Int), .int z] ∧ 0 ≤ z ∧ z ≤ ties) (EAB.imp (eab_cons (ED.b (ed_lenR (ed_var (d := .list ((pairsN ns ns.length).map pairM)) rfl).rd)) (eab_cons (eb_take rfl (ed_op (ed_var (d := .int ties) rfl) ed_int (rd_I0 (z := .int (ties + 1)) fun _ => .int _)) (by omega) (by omega)) eab_nil)) ?_) ?_) eab_nil)) ?_) ?_) (by decide))) fun Δ hΔ => ?_
  · rintro rs ⟨r, rr, rfl, rfl, w, rr', rfl, ⟨z, rfl, z1, z2⟩, rfl⟩
    exact ⟨z, by rw [List.length_map], z1, by omega⟩
  · rintro xs ⟨z, rfl, z1, z2⟩
    refine ⟨.int (if z < ((pairsN ns ns.length).length : Int) then z else ((pairsN ns ns.length).length : Int)), ?_, _, rfl, by split <;> omega, by split <;> omega⟩
    intro Hd H vs ex hv Q q
    cases hv with
    | cons g1 hv => cases hv with
      | cons g2 hv =>
        cases hv
        cases g1
        cases g2
        exact ⟨_, _, rfl, q _ Hd H (.refl ex) (.int _)⟩
  · rintro rs ⟨r, rr, rfl, rfl, w, rr', rfl, ⟨z, rfl, z1, z2⟩, rfl⟩
    exact ⟨z, rfl, z1, z2⟩
  · rintro xs ⟨z, rfl, z1, z2⟩
    exact ⟨rfl, _, z, rfl, by rw [List.length_map]; omega, z1, by omega⟩
  obtain ⟨_, ⟨_, ⟨z, rfl, z1, z2⟩, _, _, qs, rest, e, rfl, hp, hq⟩, rfl⟩ := hΔ
  cases e
  have hqm : ∀ d ∈ qs, ∃ q ∈ pairsN ns ns.length, d = pairM q := fun d hdm => by
    obtain ⟨q, hq, e⟩ := List.mem_map.mp (hp.mem_iff.mp (List.mem_append_left _ hdm))
    exact ⟨q, hq, e.symm⟩
  -- the whole
  refine (sb_ret (EB.le (n := 0 + (0 + (0 + 0 + 0 + 0))) (eb_tup (S := fun rs => ∃ es, rs = [.tuple wide, .tuple (nws.map stD), .tuple es] ∧ es.Perm qs) (EAB.imp (eab_cons (ED.b (ed_var (d := .tuple wide) rfl)) (eab_cons (ED.b (ed_var (d := .tuple (nws.map stD)) rfl)) (eab_cons (R := fun r => ∃ es, r = .tuple es ∧ es.Perm qs) (eb_cb (S := fun rs => ∃ es, rs = [.list es] ∧ es.Perm qs) (EAB.imp (eab_cons (eb_sortedTS (ed_var (d := .list qs) rfl) fun d hdm => (hqm d hdm).imp fun _ h => h.2) eab_nil) ?_) ?_) eab_nil))) ?_) ?_) (by decide))).imp (fun _ z => z) ?_
  · rintro rs ⟨r, rr, rfl, ⟨es, rfl, he⟩, rfl⟩
    exact ⟨es, rfl, he⟩
  · rintro xs ⟨es, rfl, he⟩
    exact ⟨_, cd_tupL, es, rfl, he⟩
  · rintro rs ⟨_, _, rfl, rfl, _, _, rfl, rfl, _, _, rfl, ⟨es, rfl, he⟩, rfl⟩
    exact ⟨es, rfl, he⟩
  · rintro xs ⟨es, rfl, _⟩
    exact Nat.le_of_ble_eq_true rfl
  · rintro r ⟨_, rfl, es, rfl, he⟩
    obtain ⟨ms, rfl, hms⟩ := pairs_of fun y hy => hqm y (he.mem_iff.mp hy)
    refine ⟨wide, nws, ms, rfl, ?_⟩
    subst en
    have hstr : ∀ s ∈ nws.map (·.1), PyData.strOk s = true := fun s hs => tags_ok.2 s (nsub.subset hs)
    have hml : ms.length ≤ 31 := by
      have := he.length_eq
      rw [List.length_map] at this
      omega
    have f1 : fine (.tuple wide) = true ∧ (PyData.tuple wide).depth ≤ 1 := by
      have hd : (PyData.tuple wide).depth ≤ 0 + 1 := depth_tup fun x hx => by
        obtain ⟨j, rfl, _⟩ := wi x hx
        simp [PyData.depth]
      refine ⟨fine_mk_tup (by omega) (fun x hx => ?_), hd⟩
      obtain ⟨j, rfl, _⟩ := wi x hx
      exact ⟨rfl, by simp [PyData.depth]⟩
    have f2 : ∀ x ∈ nws.map stD, fine x = true ∧ x.depth ≤ 2 := fun x hx => by
      obtain ⟨q, hq, rfl⟩ := List.mem_map.mp hx
      have hall : ∀ y ∈ [PyData.str q.1, q.2], fine y = true ∧ y.depth ≤ 1 := fun y hy => by
        rcases List.mem_cons.mp hy with rfl | hy
        · exact ⟨fine_atom_str (hstr _ (List.mem_map_of_mem hq)), by simp [PyData.depth]⟩
        · rcases List.mem_cons.mp hy with rfl | hy
          · exact fw _ hq
          · cases hy
      exact ⟨fine_mk_tup (Nat.le_of_ble_eq_true rfl) fun y hy => ⟨(hall y hy).1, Nat.le_trans (hall y hy).2 (by decide)⟩, depth_tup (n := 1) fun y hy => (hall y hy).2⟩
    have f3 : ∀ x ∈ ms.map pairM, fine x = true ∧ x.depth ≤ 1 := fun x hx => by
      obtain ⟨q, hq, rfl⟩ := List.mem_map.mp hx
      have hall : ∀ y ∈ [PyData.str q.1, .str q.2], fine y = true ∧ y.depth ≤ 0 := fun y hy => by
        have hm := pairsN_mem (hms q hq)
        rcases List.mem_cons.mp hy with rfl | hy
        · exact ⟨fine_atom_str (hstr _ hm.1), by simp [PyData.depth]⟩
        · rcases List.mem_cons.mp hy with rfl | hy
          · exact ⟨fine_atom_str (hstr _ hm.2), by simp [PyData.depth]⟩
          · cases hy
      exact ⟨fine_mk_tup (Nat.le_of_ble_eq_true rfl) fun y hy => ⟨(hall y hy).1, Nat.le_trans (hall y hy).2 (by decide)⟩, depth_tup (n := 0) fun y hy => (hall y hy).2⟩
    have f4 : ∀ y ∈ [PyData.tuple wide, .tuple (nws.map stD), .tuple (ms.map pairM)], fine y = true ∧ y.depth ≤ 3 := fun y hy => by
      rcases List.mem_cons.mp hy with rfl | hy
      · exact ⟨f1.1, Nat.le_trans f1.2 (by decide)⟩
      · rcases List.mem_cons.mp hy with rfl | hy
        · exact ⟨fine_mk_tup (by rw [List.length_map] at nl20 ⊢; omega) fun y hy => ⟨(f2 y hy).1, Nat.le_trans (f2 y hy).2 (by decide)⟩, depth_tup (n := 2) fun y hy => (f2 y hy).2⟩
        · rcases List.mem_cons.mp hy with rfl | hy
          · exact ⟨fine_mk_tup (by rw [List.length_map]; omega) fun y hy => ⟨(f3 y hy).1, Nat.le_trans (f3 y hy).2 (by decide)⟩, Nat.le_trans (depth_tup (n := 1) fun y hy => (f3 y hy).2) (by decide)⟩
          · cases hy
    refine ⟨nsub.nodup tags_ok.1, fun q hq => pairsN_mem (hms q hq), ?_, ?_, hml, fun q hq => hstr _ (List.mem_map_of_mem hq), ?_, Nat.le_trans (depth_tup (n := 3) fun y hy => (f4 y hy).2) (by decide)⟩
    · rw [List.length_map] at nl20; omega
    · rw [List.length_map] at nl1; exact nl1
    · exact fine_mk_tup (Nat.le_of_ble_eq_true rfl) fun y hy => ⟨(f4 y hy).1, Nat.le_trans (f4 y hy).2 (by decide)⟩
end
end Law

namespace Law
open PySem PySem.Spec PyProof.Rows L2 DL
open Evl (Ex)
open RZ
section
variable {P : Program} {w : World} {K : PySem.W.Frag} {mg : Str → Option Value} {base : Heap}
abbrev s_L_take : Stmt := topS 7
theorem sc_L_take : FnScope ["_law_tin", "_law_top_so", "_law_once", "_law_far", "_law_twice", "_law_digit_so"] ["_law_tin", "_law_top_so"] (defScope s_L_take) := ⟨rfl, rfl, rfl, by decide +kernel, rfl, by decide +kernel, by decide +kernel⟩
theorem ok_take (X : Tx K mg "_law_take" ["_law_tin", "_law_top_so"] s_L_take) (T : Bt mg) : Df P w K mg base 1 "_law_take" ["_law_tin", "_law_top_so"] spTake := by
  refine X.ok sc_L_take (fun vs H Q E h => ?_) (fun f cdv A outer s H vs Q E hr h => ?_)
  · obtain ⟨p, top, c, o, rfl, _⟩ := h
    rfl
  · obtain ⟨p, top, c, o, rfl, h1, h2, hp, ⟨g, m, k, rfl, b1, b2, b3, b4, b5⟩, hc, q⟩ := h
    refine ⟨_, (pss_cons (ps_if (pt_cmpR op_gt (pe_ix (ixS K) (pv 0) pe_int (fun _ _ => rfl)) pe_int (nomark _)) (pss_cons (ps_set (i := 5) sc_L_take.nd rfl (Or.inl rfl) (pe_op op_mod (pe_callTy call_int1 (by rfl) T.int boot_int (pa_cons (pe_ix (ixS K) (pv 0) pe_int (fun _ _ => rfl)) pa_nil)) (pv 1))) (pss_cons (ps_asg (pe_op op_fdivN (pe_ix (ixS K) (pv 0) pe_int (fun _ _ => rfl)) (pv 1)) (pg_sub (pv 0) pe_int set_list)) (pss_one (ps_ret (pv 5))))) pss_nil) (pss_cons (ps_asg (pe_op op_add (pe_ix (ixS K) (pv 0) pe_int (fun _ _ => rfl)) pe_int) (pg_sub (pv 0) pe_int set_list)) (pss_cons (ps_set (i := 2) sc_L_take.nd rfl (Or.inl rfl) (pe_op op_mod (pe_callTy call_int1 (by rfl) T.int boot_int (pa_cons (pe_op op_mul (pe_op op_add (pe_ix (ixS K) (pv 0) pe_int (fun _ _ => rfl)) (pe_op op_mul pe_int (pe_ix (ixS K) (pv 0) pe_int (fun _ _ => rfl)))) (pe_op op_add pe_int (pe_ix (ixS K) (pv 0) pe_int (fun _ _ => rfl)))) pa_nil)) pe_int)) (pss_cons (ps_set (i := 3) sc_L_take.nd rfl (Or.inl rfl) (pe_op op_add (pe_op op_mod (pe_callTy call_int1 (by rfl) T.int boot_int (pa_cons (pv 2) pa_nil)) pe_int) pe_int)) (pss_cons (ps_set (i := 4) sc_L_take.nd rfl (Or.inl rfl) (pe_op op_mod (pe_callTy call_int1 (by rfl) T.int boot_int (pa_cons (pe_op op_mul (pe_op op_add (pe_op op_add (pv 2) (pe_ix (ixS K) (pv 0) pe_int (fun _ _ => rfl))) (pe_op op_fdivN (pe_ix (ixS K) (pv 0) pe_int (fun _ _ => rfl)) pe_int)) (pv 3)) pa_nil)) pe_int)) (pss_one (ps_ret (pe_op op_mod (pe_callTy call_int1 (by rfl) T.int boot_int (pa_cons (pe_op op_fdivN (pe_op op_mod (pe_callTy call_int1 (by rfl) T.int boot_int (pa_cons (pe_op op_add (pe_op op_mul (pv 4) pe_int) (pv 2)) pa_nil)) pe_int) pe_int) pa_nil)) (pv 1))))))))), ?_⟩
    have ht : 0 < top := by omega
    have htn : (top : Int) ≠ 0 ∧ top.natAbs < 1073741824 := ⟨by omega, by omega⟩
    refine ix_own rfl hp rfl ⟨g, 0, rfl, rfl, _, rfl, ?_⟩
    refine ite2 (fun hg => ?_) (fun hg => ?_)
    · have hg := of_decide_eq_true hg
      refine ix_own rfl hp rfl (.inl ⟨g, rfl, _, rfl, g, top, rfl, rfl, ht, ?_⟩)
      refine ix_own rfl hp rfl ⟨_, rfl, g, top, rfl, rfl, htn, _, rfl, p, _, 0, 0, rfl, rfl, hp, rfl, _, rfl, ?_⟩
      refine q _ _ (Int.emod_nonneg _ htn.1) (Int.emod_lt_of_pos _ ht) ⟨_, m, k, rfl, ?_, b2, b3, b4, by omega⟩
      rw [Int.fdiv_eq_ediv_of_nonneg _ (by omega)]
      exact Int.ediv_nonneg b1 (by omega)
    · refine ix_own rfl hp rfl ⟨_, _, rfl, rfl, _, rfl, p, _, 2, 2, rfl, rfl, hp, rfl, ?_⟩
      refine ix_own rfl upd_same rfl (ix_own rfl upd_same rfl ⟨_, _, rfl, rfl, .inl ⟨by decide, by decide⟩, _, _, rfl, rfl, ix_own rfl upd_same rfl ⟨_, _, rfl, rfl, _, _, rfl, rfl, .inr ⟨by omega, by omega⟩, .inl ⟨_, rfl, _, _, rfl, rfl, (by show (0 : Int) < _; decide), ?_⟩⟩⟩)
      have ob := Int.emod_nonneg ((m + 48271 * (k + 1)) * (39373 + (k + 1))) (show (2147483647 : Int) ≠ 0 by decide)
      generalize ((m + 48271 * (k + 1)) * (39373 + (k + 1))) % 2147483647 = once at ob ⊢
      refine ⟨_, rfl, .inl ⟨_, rfl, _, _, rfl, rfl, (by show (0 : Int) < _; decide), _, _, rfl, rfl, ?_⟩⟩
      have f1 := Int.emod_nonneg once (show (40009 : Int) ≠ 0 by decide)
      have f2 := Int.emod_lt_of_pos once (show (0 : Int) < 40009 by decide)
      generalize once % 40009 = fm at f1 f2 ⊢
      refine ⟨_, rfl, ix_own rfl upd_same rfl ⟨_, _, rfl, rfl, ix_own rfl upd_same rfl ⟨_, _, rfl, rfl, ⟨by decide, by decide⟩, _, _, rfl, rfl, _, rfl, _, _, rfl, rfl, .inr ⟨by omega, by omega⟩, .inl ⟨_, rfl, _, _, rfl, rfl, (by show (0 : Int) < _; decide), ?_⟩⟩⟩⟩
      generalize ((once + (k + 1) + m.fdiv 1000003) * (fm + 7)) % 2147483629 = twice
      refine ⟨_, rfl, _, _, rfl, rfl, .inr ⟨by decide, by decide⟩, _, rfl, _, _, rfl, rfl, .inl ⟨_, rfl, _, _, rfl, rfl, (by show (0 : Int) < _; decide), _, _, rfl, rfl, ⟨by decide, by decide⟩, .inl ⟨_, rfl, _, rfl, _, _, rfl, rfl, ht, ?_⟩⟩⟩
      exact q _ _ (Int.emod_nonneg _ htn.1) (Int.emod_lt_of_pos _ ht) ⟨g, m, k + 1, rfl, b1, b2, b3, by omega, by omega⟩
abbrev s_L_of : Stmt := topS 9
theorem sc_L_of : FnScope ["_law_tin", "_law_pool"] ["_law_tin", "_law_pool"] (defScope s_L_of) := ⟨rfl, rfl, rfl, by decide +kernel, rfl, by decide +kernel, by decide +kernel⟩
theorem ok_of (X : Tx K mg "_law_of" ["_law_tin", "_law_pool"] s_L_of) (T : Bt mg) (D_L_take : Df P w K mg base 1 "_law_take" ["_law_tin", "_law_top_so"] spTake) : Df P w K mg base 2 "_law_of" ["_law_tin", "_law_pool"] spOf := by
  refine X.ok sc_L_of (fun vs H Q E h => ?_) (fun f cdv A outer s H vs Q E hr h => ?_)
  · obtain ⟨p, a, ws, c, o, rfl, _⟩ := h
    rfl
  · obtain ⟨p, a, ws, c, o, rfl, ha, hap, hl, hl2, hp, hb, hc, q⟩ := h
    refine ⟨_, (pss_one (ps_ret (pe_ix (ixS K) (pv 1) (pe_def D_L_take hr (by omega) (pa_cons (pv 0) (pa_cons (pe_callB (lenS K) (by rfl) T.len PySem.boot_len (pa_cons (pv 1) pa_nil)) pa_nil))) (fun _ _ => rfl)))), ?_⟩
    refine ⟨_, rfl, _, rfl, _, rfl, a, ws, rfl, .inl (SqL.of ha), p, _, c, o, rfl, by omega, by omega, hp, hb, hc, fun r o' h0 h1 hb' => ?_⟩
    obtain ⟨j, rfl⟩ := Int.eq_ofNat_of_zero_le h0
    have hj : j < ws.length := by omega
    exact .inl ⟨a, ws, j, ws[j], rfl, rfl, SqL.of (by rw [upd_ne hap]; exact ha), atI_nat (by simp [hj]), q _ o' (List.getElem_mem hj) hb'⟩
abbrev s_L_box : Stmt := topS 6
theorem sc_L_box : FnScope ["_law_script", "_law_k", "_law_great_so"] ["_law_script", "_law_k"] (defScope s_L_box) := ⟨rfl, rfl, rfl, by decide +kernel, rfl, by decide +kernel, by decide +kernel⟩
/-- from a list of ints, a place in it: a new source of draws -/
def spBox : Sp := fun vs H Q _ => ∃ (a : Addr) (ns : List Int) (j : Nat), vs = [.ref a, .int (j : Int)] ∧ H a = some (.lst (ns.map V.int)) ∧ j < ns.length ∧ ns.length ≤ 1000 ∧ ∀ (p : Addr) (o : HO), H p = none → BoxO 0 o → Q (.ref p) (upd H p o)
theorem ok_box (X : Tx K mg "_law_box" ["_law_script", "_law_k"] s_L_box) (T : Bt mg) : Df P w K mg base 1 "_law_box" ["_law_script", "_law_k"] spBox := by
  refine X.ok sc_L_box (fun vs H Q E h => ?_) (fun f cdv A outer s H vs Q E hr h => ?_)
  · obtain ⟨a, ns, j, rfl, _⟩ := h
    rfl
  · obtain ⟨a, ns, j, rfl, ha, hj, hl, q⟩ := h
    refine ⟨_, (pss_cons (ps_set (i := 2) sc_L_box.nd rfl (Or.inl rfl) (pe_ifExp (pt_cmpR op_lt (pv 1) (pe_callB (lenS K) (by rfl) T.len PySem.boot_len (pa_cons (pv 0) pa_nil)) (nomark _)) (pe_ix (ixS K) (pv 0) (pv 1) (fun _ _ => rfl)) pe_int)) (pss_one (ps_ret (pe_lst (pa_cons (pe_op op_mul (pe_callB call_abs (by rfl) T.abs boot_abs (pa_cons (pv 2) pa_nil)) (pe_callTy call_int1 (by rfl) T.int boot_int (pa_cons (pe_cmpR op_ge (pe_callB call_abs (by rfl) T.abs boot_abs (pa_cons (pv 2) pa_nil)) (pe_op op_pow pe_int pe_int) (nomark _)) pa_nil))) (pa_cons (pe_op op_add (pe_op op_add (pe_op op_mod (pe_callTy call_int1 (by rfl) T.int boot_int (pa_cons (pv 2) pa_nil)) pe_int) (pe_op op_mul pe_int (pv 1))) pe_int) (pa_cons pe_int pa_nil))))))), ?_⟩
    have hlen : (ns.map V.int).length = ns.length := List.length_map _
    have hg : (ns.map V.int)[j]? = some (.int ns[j]) := by
      rw [List.getElem?_map, List.getElem?_eq_getElem hj]
      rfl
    refine ⟨_, rfl, _, rfl, a, _, rfl, .inl (SqL.of ha), _, _, rfl, rfl, _, rfl, ?_⟩
    rw [decide_eq_true (by omega)]
    refine iteT ⟨_, rfl, _, rfl, .inl ⟨a, _, _, _, rfl, rfl, SqL.of ha, atI_nat hg, ?_⟩⟩
    generalize ns[j] = x
    refine ⟨_, rfl, _, rfl, _, rfl, _, rfl, _, _, rfl, rfl, ⟨by decide, by decide, by decide⟩, _, _, rfl, rfl, .inr ⟨_, rfl, ?_⟩⟩
    generalize hd : decide (((10 : Int) ^ (18 : Int).toNat) ≤ (if x < 0 then -x else x)) = b
    have hb : (-(2 ^ 64) < (if b = true then (1 : Int) else 0) ∧ (if b = true then (1 : Int) else 0) < 2 ^ 64) ∧ 0 ≤ (if b = true then (1 : Int) else 0) := by
      cases b
      · exact ⟨⟨by decide, by decide⟩, by decide⟩
      · exact ⟨⟨by decide, by decide⟩, by decide⟩
    generalize (if b = true then (1 : Int) else 0) = y at hb ⊢
    refine ⟨_, _, rfl, rfl, .inr hb.1, _, rfl, .inl ⟨_, rfl, _, _, rfl, rfl, (by show (0 : Int) < _; decide), _, rfl, _, _, rfl, rfl, .inl ⟨by decide, by decide⟩, _, _, rfl, rfl, _, _, rfl, rfl, (by show 3 ≤ sizeLine; decide), fun p hp => q p _ hp ?_⟩⟩
    have m0 := Int.emod_nonneg x (show (2305843009213693951 : Int) ≠ 0 by decide)
    have m1 := Int.emod_lt_of_pos x (show (0 : Int) < 2305843009213693951 by decide)
    refine ⟨_, _, 0, rfl, Int.mul_nonneg ?_ hb.2, by omega, by omega, Int.le_refl _, Int.le_refl _⟩
    split <;> omega
abbrev s_L_cells : Stmt := topS 8
theorem sc_L_cells : FnScope ["_law_script", "_law_most", "_law_cells_here", "_law_k", "_law_great_so", "_law_at_so"] ["_law_script", "_law_most"] (defScope s_L_cells) := ⟨rfl, rfl, rfl, by decide +kernel, rfl, by decide +kernel, by decide +kernel⟩
/-- the first numbers of the script, with the later ones added to them -/
def spCells (K : PySem.W.Frag) : Sp := fun vs H Q _ => ∃ (a : Addr) (ns : List Int) (m : Nat), vs = [.ref a, .int (m : Int)] ∧ SqL K H a (ns.map V.int) ∧ ns.length ≤ 63 ∧ 1 ≤ m ∧ m ≤ 10 ∧
  ∀ (p : Addr) (ms : List Int) (H' : Hp), H p = none → Ex H H' → 1 ≤ ms.length → ms.length ≤ m → H' p = some (.lst (ms.map V.int)) → Q (.ref p) H'
theorem ok_cells (X : Tx K mg "_law_cells" ["_law_script", "_law_most"] s_L_cells) (T : Bt mg) : Df P w K mg base 1 "_law_cells" ["_law_script", "_law_most"] (spCells K) := by
  refine X.ok sc_L_cells (fun vs H Q E h => ?_) (fun f cdv A outer s H vs Q E hr h => ?_)
  · obtain ⟨a, ns, m, rfl, _⟩ := h
    rfl
  · obtain ⟨a, ns, m, rfl, ha, hn, hm, hm2, q⟩ := h
    refine ⟨_, (pss_cons (ps_set (i := 2) sc_L_cells.nd rfl (Or.inl rfl) (pe_orT (pe_callTy (listS K) (by rfl) T.list boot_list (pa_cons (pe_slice (slL K) (pv 0) po_none (po_some (pv 1))) pa_nil)) (pe_one (pe_lst (pa_cons pe_int pa_nil))))) (pss_cons (ps_for PassesOwn.never rfl (piEnum K (by rfl) T.enumerate (pa_cons (pe_slice (slL K) (pv 0) (po_some (pv 1)) (po_some pe_int)) pa_nil)) (pgTup K rfl (pgs_cons (pg_name (i := 3) sc_L_cells.nd rfl (Or.inl rfl)) (pgs_cons (pg_name (i := 4) sc_L_cells.nd rfl (Or.inl rfl)) pgs_nil))) (pss_cons (ps_set (i := 5) sc_L_cells.nd rfl (Or.inl rfl) (pe_op op_mod (pe_callTy call_int1 (by rfl) T.int boot_int (pa_cons (pv 3) pa_nil)) (pv 1))) (pss_one (ps_asg (pe_op op_add (pe_ix (ixS K) (pv 2) (pv 5) (fun _ _ => rfl)) (pe_op op_mul (pv 4) (pe_op op_add (pv 3) pe_int))) (pg_sub (pv 2) (pv 5) set_list))))) (pss_one (ps_ret (pv 2))))), ?_⟩
    refine cells_first (ns := ns) (m := m) rfl rfl ha hm fun p ms H2 hp0 e2 hp hms hms2 hfull => ?_
    refine ⟨_, rfl, _, rfl, m, rfl, 63, rfl, a, _, rfl, Evl.ex_l e2 ha, fun s hs => ⟨s, _, rfl, SqL.of upd_same, ?_⟩⟩
    rw [show (63 : Int) = ((63 : Nat) : Int) from rfl, cut_from _ _ _ (by rw [List.length_map]; exact hn), ← List.map_drop]
    have nps : p ≠ s := fun z => by
      rw [z, hs] at hp
      cases hp
    generalize hr : ns.drop m = rs
    have hrl : rs.length = ns.length - m := by rw [← hr, List.length_drop]
    refine ⟨fun i n σ' H' => n = rs.length - i ∧ i ≤ rs.length ∧ ∃ (ns' : List Int) (v3 v4 v5 : Option V), σ' = [some (.ref a), some (.int m), some (.ref p), v3, v4, v5] ∧ Ex H H' ∧ H' p = some (.lst (ns'.map V.int)) ∧ ns'.length = ms.length ∧ H' s = some (.lst (rs.map V.int)),
      ⟨rs.length, rfl, Nat.zero_le _, ms, none, none, none, rfl, e2.trans (Ex.new hs), by rw [upd_ne nps]; exact hp, rfl, upd_same⟩, ?_⟩
    rintro i n σ' H' ⟨rfl, hi, ns', v3, v4, v5, rfl, e3, hp3, hl3, hs3⟩
    have hsl := SqL.of (K := K) hs3
    by_cases hlt : i < rs.length
    · have hg : (rs.map V.int)[i]? = some (.int rs[i]) := by
        rw [List.getElem?_map, List.getElem?_eq_getElem hlt]
        rfl
      refine .inr ⟨⟨_, _, hsl, hg⟩, fun σ'' H'' => ∃ (ns' : List Int) (v3 v4 v5 : Option V), σ'' = [some (.ref a), some (.int m), some (.ref p), v3, v4, v5] ∧ Ex H H'' ∧ H'' p = some (.lst (ns'.map V.int)) ∧ ns'.length = ms.length ∧ H'' s = some (.lst (rs.map V.int)),
        fun σ'' H'' w => ⟨rs.length - (i + 1), by omega, rfl, hlt, w⟩, ?_⟩
      rintro x H'' ⟨T1, y, rfl, nT, rfl, hy⟩
      have ey := hy _ hsl
      rw [hg] at ey
      cases ey
      have hm3 : ns'.length = m := by rw [hl3]; exact hfull (by omega)
      have hp4 : (upd H' T1 (.tup [.int (i : Nat), .int rs[i]])) p = some (.lst (ns'.map V.int)) := by
        rw [upd_ne (ne_of_none hp3 nT)]
        exact hp3
      have hs4 : (upd H' T1 (.tup [.int (i : Nat), .int rs[i]])) s = some (.lst (rs.map V.int)) := by
        rw [upd_ne (ne_of_none hs3 nT)]
        exact hs3
      have e4 : Ex H (upd H' T1 (.tup [.int (i : Nat), .int rs[i]])) := e3.trans (Ex.new nT)
      have hj : i % m < ns'.length := by rw [hm3]; exact Nat.mod_lt _ hm
      have hat : (ns'.map V.int)[i % m]? = some (.int ns'[i % m]) := by
        rw [List.getElem?_map, List.getElem?_eq_getElem hj]
        rfl
      refine ⟨T1, _, rfl, SqT.of upd_same, rfl, _, _, rfl, _, _, rfl, rfl, ?_⟩
      refine ⟨_, rfl, .inl ⟨_, rfl, _, rfl, _, _, rfl, rfl, (by show (0 : Int) < (m : Int); omega), ?_⟩⟩
      have ec : ((i : Nat) : Int) % (m : Int) = ((i % m : Nat) : Int) := (Int.natCast_emod i m).symm
      have hat' : atI (ns'.map V.int) (((i : Nat) : Int) % (m : Int)) = some (.int ns'[i % m]) := by
        rw [ec]
        exact atI_nat hat
      have hix : ixN (ns'.map V.int).length (((i : Nat) : Int) % (m : Int)) = some (i % m) := by
        rw [ec]
        unfold ixN
        rw [List.length_map, if_pos (by omega), if_pos (by omega), Int.toNat_natCast]
      refine ⟨_, rfl, _, rfl, .inl ⟨p, _, _, _, rfl, rfl, SqL.of hp4, hat', _, rfl, _, rfl, _, _, rfl, rfl, _, _, rfl, rfl, .inr ⟨by omega, by omega⟩, _, _, rfl, rfl, _, rfl, _, rfl, p, _, _, i % m, rfl, rfl, hp4, hix, ?_⟩⟩
      · refine ⟨ns'.set (i % m) (ns'[i % m] + rs[i] * ((i : Int) + 2)), _, _, _, rfl, e4.mut hp0, ?_, by rw [List.length_set, hl3], ?_⟩
        · rw [upd_same, List.map_set]
        · rw [upd_ne nps.symm]
          exact hs4
    · refine .inl ⟨⟨_, hsl, by rw [List.length_map]; omega⟩, _, rfl, q p ns' H' hp0 e3 (by omega) (by omega) hp3⟩
abbrev s_L_same : Stmt := topS 12
theorem sc_L_same : FnScope ["_law_got", "_law_due", "_law_lot_so", "_law_mine", "_law_its"] ["_law_got", "_law_due"] (defScope s_L_same) := ⟨rfl, rfl, rfl, by decide +kernel, rfl, by decide +kernel, by decide +kernel⟩
theorem ok_same (X : Tx K mg "_law_same" ["_law_got", "_law_due"] s_L_same) (T : Bt mg) : ∀ n : Nat, Df P w K mg base n "_law_same" ["_law_got", "_law_due"] (spD K 2 (domSame n))
  | 0 => (Tx.none (n := 2) X).imp fun vs H Q E h => by
    obtain ⟨a, Hd, ds, r, b, c, ⟨_, _, _, z, _⟩, e⟩ := h
    exact absurd z (Nat.not_lt_zero _)
  | n + 1 => by
    have D_L_same : Df P w K mg base n "_law_same" ["_law_got", "_law_due"] (spD K 2 (domSame n)) := ok_same X T n
    refine X.ok sc_L_same (fun vs H Q E h => h.1.trans rfl) (fun f cdv A outer s H vs Q E hr h => ?_)
    obtain ⟨hl, Hd, ds, r, e, hd, ⟨g, d, rfl, hn, sg, sd, rfl⟩, q⟩ := h
    refine ⟨_, (pss_cons (ps_if (pt_val (pe_callB (isiTS K) (by rfl) T.isinstance boot_isinstance (pa_cons (pv 1) (pa_cons (pe_tup (pa_cons (pe_bltn (v := .ty "list") (by rfl) T.list boot_list rfl) (pa_cons (pe_bltn (v := .ty "tuple") (by rfl) T.tuple boot_tuple rfl) pa_nil))) pa_nil)))) (pss_cons (ps_if (PW.pt (pw_or (pt_cmpR (neS K hr.units) (pe_callB (isiS K) (by rfl) T.isinstance boot_isinstance (pa_cons (pv 0) (pa_cons (pe_bltn (v := .ty "list") (by rfl) T.list boot_list rfl) pa_nil))) (pe_callB (isiS K) (by rfl) T.isinstance boot_isinstance (pa_cons (pv 1) (pa_cons (pe_bltn (v := .ty "list") (by rfl) T.list boot_list rfl) pa_nil))) (nomark _)) (pw_or1 (pt_cmpR (neS K hr.units) (pe_callB (isiS K) (by rfl) T.isinstance boot_isinstance (pa_cons (pv 0) (pa_cons (pe_bltn (v := .ty "tuple") (by rfl) T.tuple boot_tuple rfl) pa_nil))) (pe_callB (isiS K) (by rfl) T.isinstance boot_isinstance (pa_cons (pv 1) (pa_cons (pe_bltn (v := .ty "tuple") (by rfl) T.tuple boot_tuple rfl) pa_nil))) (nomark _))))) (pss_one (ps_ret pe_bl)) pss_nil) (pss_one (ps_ret (pe_and (pe_cmpR (eqS K hr.units) (pe_callB (lenS K) (by rfl) T.len PySem.boot_len (pa_cons (pv 0) pa_nil)) (pe_callB (lenS K) (by rfl) T.len PySem.boot_len (pa_cons (pv 1) pa_nil)) (nomark _)) (pe_one (pe_callB (allS K) (by rfl) T.all (by decide +kernel) (pa_cons (pe_lc (own := [("_law_mine", 3), ("_law_its", 4)]) (g := gTup K 2 (gCons (gName 3) (gCons (gName 4) gNil))) (tt := tYes) rfl sc_L_same.nd (piZip K (by rfl) T.zip (pa_cons (pv 0) (pa_cons (pv 1) pa_nil))) (blkOk_by (N := ["_law_got", "_law_due", "_law_lot_so", "_law_mine", "_law_its"]) (sc := defScope s_L_same) (by decide +kernel)) (fun _ _ _ _ _ => (pgTup K rfl (pgs_cons (pg_name (i := 3) sc_L_same.nd rfl (Or.inl rfl) (hf := .inr rfl)) (pgs_cons (pg_name (i := 4) sc_L_same.nd rfl (Or.inl rfl) (hf := .inr rfl)) pgs_nil)))) (fun _ _ _ _ _ => pts_nil) (fun _ _ _ _ _ => (pe_def D_L_same hr (by omega) (pa_cons (pv 3) (pa_cons (pv 4) pa_nil))))) pa_nil))))))) pss_nil) (pss_cons (ps_if (pt_val (pe_callB (isiS K) (by rfl) T.isinstance boot_isinstance (pa_cons (pv 1) (pa_cons (pe_bltn (v := .ty "dict") (by rfl) T.dict boot_dict rfl) pa_nil)))) pss_never pss_nil) (pss_cons (ps_if (PW.pt (pw_or (pt_cmpR op_isN (pv 1) pe_non (nomark _)) (pw_or1 (pt_val (pe_callB (isiTS K) (by rfl) T.isinstance boot_isinstance (pa_cons (pv 1) (pa_cons (pe_tup (pa_cons (pe_bltn (v := .ty "bool") (by rfl) T.bool boot_bool rfl) (pa_cons (pe_bltn (v := .ty "str") (by rfl) T.str boot_str rfl) pa_nil))) pa_nil))))))) (pss_one (ps_ret (pe_and (pe_cmpR (eqS K hr.units) (pv 0) (pv 1) (nomark _)) (pe_and (pe_cmpR (eqS K hr.units) (pe_callB (isiS K) (by rfl) T.isinstance boot_isinstance (pa_cons (pv 0) (pa_cons (pe_bltn (v := .ty "bool") (by rfl) T.bool boot_bool rfl) pa_nil))) (pe_callB (isiS K) (by rfl) T.isinstance boot_isinstance (pa_cons (pv 1) (pa_cons (pe_bltn (v := .ty "bool") (by rfl) T.bool boot_bool rfl) pa_nil))) (nomark _)) (pe_one (pe_cmpR (eqS K hr.units) (pe_cmpR op_isN (pv 0) pe_non (nomark _)) (pe_cmpR op_isN (pv 1) pe_non (nomark _)) (nomark _))))))) pss_nil) (pss_one (ps_ret (pe_and (pe_callB (isiS K) (by rfl) T.isinstance boot_isinstance (pa_cons (pv 0) (pa_cons (pe_bltn (v := .ty "int") (by rfl) T.int boot_int rfl) pa_nil))) (pe_and (pe_not (pe_callB (isiS K) (by rfl) T.isinstance boot_isinstance (pa_cons (pv 0) (pa_cons (pe_bltn (v := .ty "bool") (by rfl) T.bool boot_bool rfl) pa_nil)))) (pe_one (pe_cmpR (eqS K hr.units) (pv 0) (pv 1) (nomark _)))))))))), ?_⟩
    refine run_d e hd ?_ q
    refine sd_ifR (b := is_list d || is_tuple d) (et_val (ed_isi2 (ed_var rfl) (kb_list d) (kb_tuple d))) (fun hb => ?_) (fun hb => ?_) (fun _ z => nomatch z)
    · refine sd_ifR (b := (is_list g != is_list d) || (is_tuple g != is_tuple d)) (et_or (et_test (ed_op (ed_isi (ed_var rfl) (kb_list g)) (ed_isi (ed_var rfl) (kb_list d)) rd_neB)) fun _ => et_test (ed_op (ed_isi (ed_var rfl) (kb_tuple g)) (ed_isi (ed_var rfl) (kb_tuple d)) rd_neB)) (fun hb1 => ?_) (fun hb1 => ?_) (fun _ z => nomatch z)
      · refine sd_ret (ed_bl.is ?_)
        cases d <;> first | (simp [is_list, is_tuple] at hb; done) | (cases g <;> first | rfl | (simp [is_list, is_tuple] at hb1; done))
      · cases d with
        | list ys =>
          cases g with
          | list xs =>
            have fx := fine_list sg
            have fy := fine_list sd
            refine sd_ret ((ed_and (b := decide (xs.length = ys.length)) ((ed_op (ed_lenR (ed_var rfl).rd) (ed_lenR (ed_var rfl).rd) rd_eqI).is (congrArg PyData.bool (decide_eq_decide.mpr (by omega)))) fun _ => ed_all (er_same (ei_zipL (ea_cons (ed_var rfl) (ea_cons (ed_var rfl) ea_nil))) fx.1 (by decide) (by decide) (by decide) (by show 3 < 5; decide) (by show 4 < 5; decide) fun x y hx hy => ?_)).is ?_)
            · exact ⟨x, y, rfl, by have := (fy.2 y hy).2; omega, (fx.2 x hx).1, (fy.2 y hy).1, rfl⟩
            · show PyData.bool _ = PyData.bool (sameA xs ys)
              rw [sameA_zip]
          | _ => exact nomatch hb1
        | tuple ys =>
          cases g with
          | tuple xs =>
            have fx := fine_tup sg
            have fy := fine_tup sd
            refine sd_ret ((ed_and (b := decide (xs.length = ys.length)) ((ed_op (ed_lenT (ed_var rfl)) (ed_lenT (ed_var rfl)) rd_eqI).is (congrArg PyData.bool (decide_eq_decide.mpr (by omega)))) fun _ => ed_all (er_same (ei_zipT (ea_cons (ed_var rfl) (ea_cons (ed_var rfl) ea_nil))) fx.1 (by decide) (by decide) (by decide) (by show 3 < 5; decide) (by show 4 < 5; decide) fun x y hx hy => ?_)).is ?_)
            · exact ⟨x, y, rfl, by have := (fy.2 y hy).2; omega, (fx.2 x hx).1, (fy.2 y hy).1, rfl⟩
            · show PyData.bool _ = PyData.bool (sameA xs ys)
              rw [sameA_zip]
          | _ => exact nomatch hb1
        | _ => exact nomatch hb
    · have hdict : is_dict d = false := by
        cases d <;> first | rfl | exact nomatch fine_shaped sd
      refine sd_ifR (b := is_dict d) (et_val (ed_isi (ed_var rfl) (kb_dict d))) (fun hb2 => ?_) (fun hb2 => ?_) (fun _ z => nomatch z)
      · rw [hdict] at hb2
        cases hb2
      · refine sd_ifR (b := is_non d || (is_bool d || is_str d)) (et_or (et_test (ed_op (ed_var rfl) ed_non rd_isNon)) fun _ => et_val (ed_isi2 (ed_var rfl) (kb_bool d) (kb_str d))) (fun hb3 => ?_) (fun hb3 => ?_) (fun _ z => nomatch z)
        · refine sd_ret ((ed_and (ed_op (ed_var rfl) (ed_var rfl) (rd_eqD (fine_shaped sg) (fine_shaped sd))) fun _ => ed_and (ed_op (ed_isi (ed_var rfl) (kb_bool g)) (ed_isi (ed_var rfl) (kb_bool d)) rd_eqB) fun _ => ed_op (ed_op (ed_var rfl) ed_non rd_isNon) (ed_op (ed_var rfl) ed_non rd_isNon) rd_eqB).is ?_)
          cases d <;> first | (simp [is_non, DL.is_bool, is_str] at hb3; done) | (simp [is_list, is_tuple] at hb; done) | (cases g <;> simp [PyData.eqv, DL.is_bool, is_non, sameD])
        · refine sd_ret ((ed_and (ed_isi (ed_var rfl) (kb_int g)) fun _ => ed_and (ed_not (ed_isi (ed_var rfl) (kb_bool g))) fun _ => ed_op (ed_var rfl) (ed_var rfl) (rd_eqD (fine_shaped sg) (fine_shaped sd))).is ?_)
          cases d <;> first | (simp [is_non, DL.is_bool, is_str] at hb3; done) | (simp [is_list, is_tuple] at hb; done) | (simp [is_dict] at hdict; done) | (cases g <;> simp [PyData.eqv, DL.is_bool, is_int, sameD])
end
end Law

namespace Law
open PySem PySem.Spec PyProof.Rows L2 DL
open Evl (Ex)
open RZ
section
variable {P : Program} {w : World} {K : PySem.W.Frag} {mg : Str → Option Value} {base : Heap}
abbrev s_L_case_right : Stmt := topS 19
theorem sc_L_case_right : FnScope ["_law_tin", "_law_web_here", "_law_rows_so", "_law_lap", "_law_matter", "_law_tags_here", "_law_soft", "_law_path_so", "_law_turn", "_law_near_here"] ["_law_tin", "_law_web_here"] (defScope s_L_case_right) := ⟨rfl, rfl, rfl, by decide +kernel, rfl, by decide +kernel, by decide +kernel⟩
def preCase (xs : List PyData) : Prop := ∃ wide nws ms, xs = [webD wide nws ms] ∧ WebOk wide nws ms
def domCase (xs : List PyData) (r : PyData) : Prop := r = .bool true
def caseG (p : Addr) (w rows : PyData) (a b : G) (tags soft : PyData) (c d e : G) : List G := [.val (.ref p), .dat w, .dat rows, a, b, .dat tags, .dat soft, c, d, e]
def rows0 (tags : List PyData) : List PyData := [.tuple [], .none, .int 0, .str "sa", .tuple [.str "zz"], .tuple [.int 1], .tuple [.none], .tuple [.tuple [.str "sa"]], .tuple [.list [.str "sa"]], .list (cutD tags none (some 1)), .bool true, .tuple [.str "sa", .str "zz"], .tuple [.str "sa", .int 1]]
theorem ok_case (X : Tx K mg "_law_case_right" ["_law_tin", "_law_web_here"] s_L_case_right) (T : Bt mg) (D_L_take : Df P w K mg base 1 "_law_take" ["_law_tin", "_law_top_so"] spTake) (D_L_of : Df P w K mg base 2 "_law_of" ["_law_tin", "_law_pool"] spOf)
    (D_L_lists : Df P w K mg base 6 "_law_lists" ["_law_matter"] (spD K 1 (domLists 6))) (D_L_same : Df P w K mg base 3 "_law_same" ["_law_got", "_law_due"] (spD K 2 (domSame 3))) (D_L_tags : Df P w K mg base 1 "_law_tags" ["_law_web_here"] (spD K 1 domTags)) (D_L_near : Df P w K mg base 1 "_law_near" ["_law_web_here", "_law_tag"] (spD K 2 domNearW))
    (D_L_is_path : Df P w K mg base 2 "_law_is_path" ["_law_web_here", "_law_matter"] (spD K 2 domPath)) (D_is_walk : Df P w K mg base 3 "is_walk" ["chart", "thing"] (spD K 2 domWalk)) (DK_is_walk : DfK P w K mg base 3 "is_walk" ["chart", "thing"] ["thing", "chart"] swapV swapV (spD K 2 domWalk)) :
    Df P w K mg base 7 "_law_case_right" ["_law_tin", "_law_web_here"] (spB K 1 1000 preCase domCase) := by
  refine X.ok sc_L_case_right (fun vs H Q E h => h.1.trans rfl) (fun f cdv A outer s H vs Q E hr h => ?_)
  obtain ⟨hl, p, c, Hd, xs, o, ws, rfl, e, k0, ho, hb, hc, hd, ⟨wide, nws, ms, rfl, W⟩, q⟩ := h
  refine ⟨_, (pss_cons (ps_par (i := 5) (j := 6) (by rfl) sc_L_case_right.nd rfl rfl (by decide) rfl rfl (pa_cons (pe_def D_L_tags hr (by omega) (pa_cons (pv 1) pa_nil)) (pa_cons (pe_def D_L_lists hr (by omega) (pa_cons (pv 1) pa_nil)) pa_nil)) (by rfl)) (pss_cons (ps_set (i := 2) sc_L_case_right.nd rfl (Or.inl rfl) (pe_lst (pa_cons (pe_tup pa_nil) (pa_cons pe_non (pa_cons pe_int (pa_cons pe_str (pa_cons (pe_tup (pa_cons pe_str pa_nil)) (pa_cons (pe_tup (pa_cons pe_int pa_nil)) (pa_cons (pe_tup (pa_cons pe_non pa_nil)) (pa_cons (pe_tup (pa_cons (pe_tup (pa_cons pe_str pa_nil)) pa_nil)) (pa_cons (pe_tup (pa_cons (pe_lst (pa_cons pe_str pa_nil)) pa_nil)) (pa_cons (pe_slice (slL K) (pv 5) po_none (po_some pe_int)) (pa_cons pe_bl (pa_cons (pe_tup (pa_cons pe_str (pa_cons pe_str pa_nil))) (pa_cons (pe_tup (pa_cons pe_str (pa_cons pe_int pa_nil))) pa_nil))))))))))))))) (pss_cons (ps_for PassesOwn.never rfl (pi_range1 (by rfl) T.range (pa_cons pe_int pa_nil)) (pg_name (i := 3) sc_L_case_right.nd rfl (Or.inl rfl)) (pss_cons (ps_set (i := 7) sc_L_case_right.nd rfl (Or.inl rfl) (pe_lst (pa_cons (pe_def D_L_of hr (by omega) (pa_cons (pv 0) (pa_cons (pv 5) pa_nil))) pa_nil))) (pss_cons (ps_for PassesOwn.never rfl (pi_range1 (by rfl) T.range (pa_cons (pe_def D_L_take hr (by omega) (pa_cons (pv 0) (pa_cons pe_int pa_nil))) pa_nil)) (pg_name (i := 8) sc_L_case_right.nd rfl (Or.inl rfl)) (pss_cons (ps_set (i := 9) sc_L_case_right.nd rfl (Or.inl rfl) (pe_def D_L_near hr (by omega) (pa_cons (pv 1) (pa_cons (pe_ix (ixS K) (pv 7) (pe_un un_neg pe_int) (fun _ _ => rfl)) pa_nil)))) (pss_one (ps_expr (pe_bm PySem.F.plainAttrs_list PySem.F.slot_list_append PySem.F.type_list_append mt_append (pv 7) (pa_cons (pe_ifExp (PW.pt (pw_and (pt_cmpR (neS K hr.units) (pv 9) (pe_lst pa_nil) (nomark _)) (pw_and1 (pt_cmpR op_gt (pe_def D_L_take hr (by omega) (pa_cons (pv 0) (pa_cons pe_int pa_nil))) pe_int (nomark _))))) (pe_def D_L_of hr (by omega) (pa_cons (pv 0) (pa_cons (pv 9) pa_nil))) (pe_def D_L_of hr (by omega) (pa_cons (pv 0) (pa_cons (pv 5) pa_nil)))) pa_nil)))))) (pss_one (ps_set (i := 2) sc_L_case_right.nd rfl (Or.inl rfl) (pe_op op_cat (pv 2) (pe_lst (pa_cons (pe_callTy (tupS K) (by rfl) T.tuple boot_tuple (pa_cons (pv 7) pa_nil)) (pa_cons (pe_callTy (tupS K) (by rfl) T.tuple boot_tuple (pa_cons (pe_revL (pv 7)) pa_nil)) (pa_cons (pe_callTy (listS K) (by rfl) T.list boot_list (pa_cons (pv 7) pa_nil)) (pa_cons (pe_callTy (tupS K) (by rfl) T.tuple boot_tuple (pa_cons (pe_op op_cat (pv 7) (pe_slice (slL K) (pv 7) po_none (po_some pe_int))) pa_nil)) (pa_cons (pe_callTy (tupS K) (by rfl) T.tuple boot_tuple (pa_cons (pe_op op_cat (pv 7) (pv 7)) pa_nil)) pa_nil)))))))))))) (pss_cons (ps_for PassesOwn.never rfl (piList K (pv 2)) (pg_name (i := 4) sc_L_case_right.nd rfl (Or.inl rfl)) (pss_one (ps_if (pt_not (pt_val (pe_def D_L_same hr (by omega) (pa_cons (pe_lst (pa_cons (pe_def D_is_walk hr (by omega) (pa_cons (pv 1) (pa_cons (pv 4) pa_nil))) (pa_cons (pe_defK0 DK_is_walk hr (by omega) (pk_cons (pv 4) (pk_cons (pv 6) pk_nil))) pa_nil))) (pa_cons (pe_op op_rep (pe_lst (pa_cons (pe_def D_L_is_path hr (by omega) (pa_cons (pv 1) (pa_cons (pv 4) pa_nil))) pa_nil)) pe_int) pa_nil))))) (pss_one (ps_ret pe_bl)) pss_nil))) (pss_one (ps_ret pe_bl)))))), ?_⟩
  refine run_b (dom := domCase) e k0 ho hb hc hd (by decide) ?_ q
  obtain ⟨w, ew⟩ : ∃ w, webD wide nws ms = w := ⟨_, rfl⟩
  obtain ⟨ns, en⟩ : ∃ ns, nws.map (·.1) = ns := ⟨_, rfl⟩
  have nl : ns.length ≤ 1000 := by rw [← en, List.length_map]; exact W.nl
  have n1 : 1 ≤ ns.length := by rw [← en, List.length_map]; exact W.n1
  have nstr : ∀ s ∈ ns, PyData.strOk s = true := fun s hs => W.str (by rw [en]; exact hs)
  have nfine : ∀ x ∈ ns.map PyData.str, fine x = true ∧ x.depth ≤ 63 := fun x hx => by
    obtain ⟨s, hs, rfl⟩ := List.mem_map.mp hx
    exact ⟨fine_atom_str (nstr s hs), by simp [PyData.depth]⟩
  show SB K p _ [.val (.ref p), .dat (webD wide nws ms), .any, .any, .any, .any, .any, .any, .any, .any] _ _ _
  rw [ew]
  refine SB.le (n := 0 + (0 + ((0 + 6 * (1 + ((1 + 0 + 8 * (0 + (0 + (1 + 0) + 1))) + 0))) + ((0 + 43 * 0) + 0)))) ?_ (by decide)
  refine sb_seq (sb_parD (i := 5) (j := 6) (ed_call (ea_cons (ed_var (d := w) rfl) ea_nil) rfl ⟨wide, nws, ms, by rw [ew], W, rfl⟩) (ed_call (ea_cons (ed_var (d := w) rfl) ea_nil) rfl ⟨w, rfl, by rw [← ew]; have := W.dp; omega, by rw [← ew]; exact W.fn, rfl⟩)) fun Δ hΔ => ?_
  subst hΔ
  rw [en]
  refine sb_seq (sb_set (ED.b (EF.dat (ef_lst (xs := rows0 (ns.map PyData.str)) ?_ (Nat.le_of_ble_eq_true rfl))))) fun Δ hΔ => ?_
  · show EA K _ _ [.tuple [], .none, .int 0, .str "sa", .tuple [.str "zz"], .tuple [.int 1], .tuple [.none], .tuple [.tuple [.str "sa"]], .tuple [.list [.str "sa"]], .list (cutD (ns.map PyData.str) none (some 1)), .bool true, .tuple [.str "sa", .str "zz"], .tuple [.str "sa", .int 1]]
    repeat' first | exact ed_int | exact ed_str | exact ed_bl | exact ed_non | exact ea_nil | refine ea_cons ?_ ?_ | refine ed_tup ?_ (Nat.le_of_ble_eq_true rfl) | exact (ef_lst (ea_cons ed_str ea_nil) (Nat.le_of_ble_eq_true rfl)).dat | exact (ef_sl (ed_var (d := .list (ns.map PyData.str)) rfl) eo_no (eo_int ed_int)).dat
  obtain ⟨_, rfl, rfl⟩ := hΔ
  have r0 : ∀ x ∈ rows0 (ns.map PyData.str), fine x = true := fun x hx => by
    unfold rows0 at hx
    simp only [List.mem_cons, List.not_mem_nil, or_false] at hx
    rcases hx with rfl | rfl | rfl | rfl | rfl | rfl | rfl | rfl | rfl | rfl | rfl | rfl | rfl
    case _ => rfl
    all_goals first | (decide +kernel) | skip
    exact fine_mk_list (by unfold DL.cutD; rw [List.length_take, List.length_drop, List.length_map]; omega) fun y hy => nfine y (List.mem_of_mem_drop (List.mem_of_mem_take hy))
  -- six rows of states
  refine sb_seq (sb_for (M := 6) (m := 1 + ((1 + 0 + 8 * (0 + (0 + (1 + 0) + 1))) + 0)) (fun k Θ => ∃ rows a b c d e, Θ = caseG p w (.list rows) a b (.list (ns.map PyData.str)) (softD w) c d e ∧ (∀ x ∈ rows, fine x = true) ∧ rows.length = 13 + 5 * k) (EI.bb (ei_rng1 (n := 6) (ea_cons ed_int ea_nil) (by decide))) ⟨_, .any, .any, .any, .any, .any, rfl, r0, rfl⟩ ?_) fun Δ hΔ => ?_
  · rintro rs rfl
    refine ⟨by decide, ?_⟩
    rintro k r Θ hk ⟨rows, a, b, c, d, e, rfl, hrf, hrl⟩
    have hk6 : k < 6 := (List.getElem?_eq_some_iff.mp hk).1
    refine ⟨_, [3], gdb_name (List.mem_singleton.mpr rfl), ?_⟩
    refine sb_seq (sb_ownL (i := 7) (eb_of rfl (ed_var (d := .list (ns.map PyData.str)) rfl) (by rw [List.length_map]; exact n1) (by rw [List.length_map]; omega))) fun Δ hΔ => ?_
    obtain ⟨y, hy, rfl⟩ := hΔ
    obtain ⟨t0, ht0, rfl⟩ := List.mem_map.mp hy
    refine sb_seq (sb_for (M := 8) (m := 0 + (0 + (1 + 0) + 1)) (fun j Θ => ∃ gs t a d e, Θ = caseG p w (.list rows) (.dat r) a (.list (ns.map PyData.str)) (softD w) (.own (gs ++ [.str t])) d e ∧ t ∈ ns ∧ (∀ x ∈ gs, x ∈ ns.map PyData.str) ∧ gs.length ≤ j) (eib_rng1 (M := 8) (eab_cons (eb_take rfl ed_int (by decide) (by decide)) eab_nil) ?_ (by decide)) ⟨[], t0, _, _, _, rfl, ht0, (fun _ z => nomatch z), Nat.le_refl _⟩ ?_) fun Δ hΔ => ?_
    · rintro xs ⟨_, _, rfl, ⟨z, rfl, z0, z1⟩, rfl⟩
      exact ⟨z, rfl, z0, by omega⟩
    · rintro rs ⟨hrs, _⟩
      refine ⟨hrs, ?_⟩
      rintro j r' Θ hj ⟨gs, t, a, d, e, rfl, ht, hgs, hgl⟩
      refine ⟨_, [8], gdb_name (List.mem_singleton.mpr rfl), ?_⟩
      refine sb_seq (sb_set (ED.b (ed_call (ea_cons (ed_var (d := w) rfl) (ea_cons (ed_ixR (z := .str t) (er_own (ds := gs ++ [.str t]) rfl) (ed_neg ed_int) (atI_last gs (.str t))) ea_nil)) rfl ⟨wide, nws, ms, t, by rw [ew], W, nstr t ht, rfl⟩))) fun Δ hΔ => ?_
      obtain ⟨_, rfl, rfl⟩ := hΔ
      have nrl := nearW_len ms t
      have nml := W.ml
      have nrm : ∀ x ∈ (sortS (nearW ms t)).map PyData.str, x ∈ ns.map PyData.str := fun x hx => by
        obtain ⟨s, hs, rfl⟩ := List.mem_map.mp hx
        refine List.mem_map_of_mem ?_
        rw [← en]
        rcases nearW_mem.mp (sortS_mem.mp hs) with h | h
        · exact (W.mem _ h).2
        · exact (W.mem _ h).1
      refine (sb_app (i := 7) (ds := gs ++ [.str t]) (R := fun x => x ∈ ns.map PyData.str) rfl (eb_ifB (Q1 := fun b => b = true → (true = !((sortS (nearW ms t)).map PyData.str).isEmpty) ∧ True) (etb_and (Q2 := fun _ => True) (etb_pure (et_test (ed_op (ed_var (d := .list ((sortS (nearW ms t)).map PyData.str)) rfl) (ef_lst ea_nil (by decide)).dat (rd_neNil ?_)))) fun _ => ?_) (fun hz => ?_) ?_) ?_).imp ?_ (fun _ z => z)
      · exact fine_shaped (fine_mk_list (by rw [List.length_map, sortS_len]; omega) fun x hx => nfine x (nrm x hx))
      · exact fun _ _ c σ Hd H e hc Q q => etb_test (eb_op (R := fun r => ∃ b, r = .bool b) (eb_take rfl ed_int (by decide) (by decide)) (ED.b ed_int) (by
          rintro x y ⟨z, rfl, _⟩ rfl
          exact ⟨_, rd_I0 fun _ => .bl _, _, rfl⟩)) (fun r h => h) _ _ c σ Hd H e hc Q fun b Hd' H' _ => q b Hd' H' trivial
      · refine (eb_of rfl (ed_var (d := .list ((sortS (nearW ms t)).map PyData.str)) rfl) ?_ ?_).imp nrm
        · have := (hz rfl).1
          cases z : (sortS (nearW ms t)).map PyData.str with
          | nil => rw [z] at this; cases this
          | cons _ _ => exact Nat.succ_le_succ (Nat.zero_le _)
        · rw [List.length_map, sortS_len]; omega
      · exact eb_of rfl (ed_var (d := .list (ns.map PyData.str)) rfl) (by rw [List.length_map]; exact n1) (by rw [List.length_map]; omega)
      · have : j < rs.length := (List.getElem?_eq_some_iff.mp hj).1
        rw [List.length_append, List.length_singleton]
        omega
      · rintro Δ ⟨x, hx, rfl⟩
        obtain ⟨s, hs, rfl⟩ := List.mem_map.mp hx
        refine ⟨gs ++ [.str t], s, _, _, _, rfl, hs, fun x hx => ?_, by rw [List.length_append, List.length_singleton]; omega⟩
        rcases List.mem_append.mp hx with h | h
        · exact hgs x h
        · rw [List.mem_singleton.mp h]
          exact List.mem_map_of_mem ht
    obtain ⟨rs, ⟨hrs, _⟩, gs, t, a, d, e, rfl, ht, hgs, hgl⟩ := hΔ
    obtain ⟨fs, ef⟩ : ∃ fs, gs ++ [PyData.str t] = fs := ⟨_, rfl⟩
    have hfl : fs.length ≤ 9 := by rw [← ef, List.length_append, List.length_singleton]; omega
    have hff : ∀ x ∈ fs, fine x = true ∧ x.depth ≤ 63 := fun x hx => by
      rw [← ef] at hx
      rcases List.mem_append.mp hx with h | h
      · exact nfine x (hgs x h)
      · rw [List.mem_singleton.mp h]
        exact nfine _ (List.mem_map_of_mem ht)
    rw [ef]
    have cutl : (cutD fs none (some 1)).length ≤ 9 := by unfold DL.cutD; rw [List.length_take, List.length_drop]; omega
    have cutm : ∀ x ∈ cutD fs none (some 1), x ∈ fs := fun x hx => List.mem_of_mem_drop (List.mem_of_mem_take hx)
    refine sb_freeze (i := 7) (ds := fs) rfl ((sb_set (ED.b ((ef_op (ds := rows ++ [.tuple fs, .tuple fs.reverse, .list fs, .tuple (fs ++ cutD fs none (some 1)), .tuple (fs ++ fs)]) (ed_var (d := .list rows) rfl) (ef_lst (ea_cons (ed_tupR (ed_var (d := .list fs) rfl).rd) (ea_cons (ed_tupR (ef_revL (ed_var (d := .list fs) rfl).rd).rd) (ea_cons (ef_listR (ed_var (d := .list fs) rfl).rd).dat (ea_cons (ed_tupR (ef_op (ed_var (d := .list fs) rfl) (ef_sl (ed_var (d := .list fs) rfl) eo_no (eo_int ed_int)).dat (rf_cat (by omega))).rd) (ea_cons (ed_tupR (ef_op (ed_var (d := .list fs) rfl) (ed_var (d := .list fs) rfl) (rf_cat (by omega))).rd) ea_nil))))) (Nat.le_of_ble_eq_true rfl)).dat (rf_cat (by show rows.length + 5 ≤ 100000; omega))).dat))).imp ?_ (fun _ z => z))
    rintro Δ ⟨_, rfl, rfl⟩
    refine ⟨_, _, _, _, _, _, rfl, fun x hx => ?_, by rw [List.length_append, hrl]; show 13 + 5 * k + 5 = _; omega⟩
    rcases List.mem_append.mp hx with h | h
    · exact hrf x h
    · simp only [List.mem_cons, List.not_mem_nil, or_false] at h
      rcases h with rfl | rfl | rfl | rfl | rfl
      · exact fine_mk_tup (by omega) hff
      · exact fine_mk_tup (by rw [List.length_reverse]; omega) fun y hy => hff y (List.mem_reverse.mp hy)
      · exact fine_mk_list (by omega) hff
      · exact fine_mk_tup (by rw [List.length_append]; omega) fun y hy => (List.mem_append.mp hy).elim (hff y) fun z => hff y (cutm y z)
      · exact fine_mk_tup (by rw [List.length_append]; omega) fun y hy => (List.mem_append.mp hy).elim (hff y) (hff y)
  obtain ⟨_, rfl, rows, a, b, c, d, e, rfl, hrf, hrl⟩ := hΔ
  -- all of them
  refine sb_seq (sb_for (M := 43) (m := 0) (fun k Θ => ∃ b, Θ = caseG p w (.list rows) a b (.list (ns.map PyData.str)) (softD w) c d e) (EI.bb (ei_list (ed_var (d := .list rows) rfl))) ⟨b, rfl⟩ ?_) fun Δ hΔ => ?_
  · rintro rs rfl
    refine ⟨by rw [hrl]; decide, ?_⟩
    rintro k th Θ hk ⟨b, rfl⟩
    have hth := hrf th (List.mem_of_getElem? hk)
    refine ⟨_, [4], gdb_name (List.mem_singleton.mpr rfl), ?_⟩
    obtain ⟨bw, ebw⟩ : ∃ bw, isWalkB ns ms th = bw := ⟨_, rfl⟩
    refine (sb_if (b := false) ((et_not (et_val (b := true) (ed_call (ea_cons (x := .list [.bool bw, .bool bw]) (ef_lst (xs := [.bool bw, .bool bw]) (ea_cons (ed_call (ea_cons (ed_var (d := w) rfl) (ea_cons (ed_var (d := th) rfl) ea_nil)) rfl ⟨w, ns, ms, th, rfl, by rw [← ew, ← en]; exact W.chart, hth, by rw [ebw]⟩) (ea_cons (ed_callK (ea_cons (ed_var (d := th) rfl) (ea_cons (ed_var (d := softD w) rfl) ea_nil)) ⟨softD w, ns, ms, th, rfl, by rw [← ew, ← en]; exact W.soft, hth, by rw [ebw]⟩) ea_nil)) (Nat.le_of_ble_eq_true rfl)).dat (ea_cons (x := .list [.bool bw, .bool bw]) (ef_rep (ds := [.bool bw]) (ef_lst (ea_cons (ed_call (ea_cons (ed_var (d := w) rfl) (ea_cons (ed_var (d := th) rfl) ea_nil)) rfl ⟨wide, nws, ms, th, by rw [ew], W, hth, by rw [en, ebw]⟩) ea_nil) (Nat.le_of_ble_eq_true rfl)).dat ed_int (by decide) (by decide) (Nat.le_of_ble_eq_true rfl)).dat ea_nil)) rfl ⟨_, _, rfl, ?_, ?_, ?_, ?_⟩))).is rfl) (fun z => nomatch z) fun _ => sb_next).imp ?_ (fun _ z => z)
    · rintro Δ rfl
      exact ⟨_, rfl⟩
    · cases bw <;> decide +kernel
    · cases bw <;> decide +kernel
    · cases bw <;> decide +kernel
    · cases bw <;> rfl
  obtain ⟨rs, _, b, rfl⟩ := hΔ
  refine (sb_ret (ED.b ed_bl)).imp (fun _ z => z) ?_
  rintro r rfl
  rfl
end
end Law

namespace Law
open PySem PySem.Spec PyProof.Rows L2 DL
open Evl (Ex)
open RZ
section
variable {P : Program} {w : World} {K : PySem.W.Frag} {mg : Str → Option Value} {base : Heap}
abbrev s_L_great : Stmt := topS 17
theorem sc_L_great : FnScope ["_law_folk", "_law_k", "_law_tag", "_law_j"] [] (defScope s_L_great) := ⟨rfl, rfl, rfl, by decide +kernel, rfl, by decide +kernel, by decide +kernel⟩
def greatN : Str := "abcdefghij"
def greatE (k : Nat) : PyData := .tuple ((List.range 20).map fun (j : Nat) => .int (((k : Int) + (if decide ((j : Int) = (k : Int)) then 1 else 0)) % 10))
def greatW : List (Str × PyData) := (List.range 10).map fun k => (⟨#[greatN.cps.toList.getD k 0]⟩, greatE k)
def greatM : List (Str × Str) := (List.range 9).map fun k => (⟨#[greatN.cps.toList.getD k 0]⟩, ⟨#[greatN.cps.toList.getD (k + 1) 0]⟩)
def greatS : List PyData := (List.replicate 20 [PyData.int 10]).flatten
def greatD : PyData := webD greatS greatW greatM
theorem great_ok : WebOk greatS greatW greatM := ⟨by decide +kernel, by decide +kernel, by decide, by decide, by decide, by decide +kernel, by decide +kernel, by decide +kernel⟩
def greatG : Nat → List G
  | 0 => [.own [], .any, .any, .any]
  | k + 1 => [.own ((greatW.take (k + 1)).map stD), .dat (.int (k : Int)), .dat (.str ⟨#[greatN.cps.toList.getD k 0]⟩), .any]
theorem greatG_set (k : Nat) (a b : G) : ((greatG k).set 1 a).set 2 b = [.own ((greatW.take k).map stD), a, b, .any] := by cases k <;> rfl
theorem ok_great (X : Tx K mg "_law_great" [] s_L_great) (T : Bt mg) : Df P w K mg base 1 "_law_great" [] (spD K 0 fun ds r => ds = [] ∧ r = greatD) := by
  refine X.ok sc_L_great (fun vs H Q E h => h.1.trans rfl) (fun f cdv A outer s H vs Q E hr h => ?_)
  obtain ⟨hl, Hd, ds, r, e, hd, ⟨rfl, rfl⟩, q⟩ := h
  refine ⟨_, (pss_cons (ps_set (i := 0) sc_L_great.nd rfl (Or.inl rfl) (pe_lst pa_nil)) (pss_cons (ps_for PassesOwn.never rfl (pi_enumS (by rfl) T.enumerate (pa_cons pe_str pa_nil)) (pgTup K rfl (pgs_cons (pg_name (i := 1) sc_L_great.nd rfl (Or.inr rfl)) (pgs_cons (pg_name (i := 2) sc_L_great.nd rfl (Or.inl rfl)) pgs_nil))) (pss_one (ps_expr (pe_bm PySem.F.plainAttrs_list PySem.F.slot_list_append PySem.F.type_list_append mt_append (pv 0) (pa_cons (pe_tup (pa_cons (pv 2) (pa_cons (pe_callTy (tupS K) (by rfl) T.tuple boot_tuple (pa_cons (pe_lc (own := [("_law_j", 3)]) (g := gName 3) (tt := tYes) rfl sc_L_great.nd (pi_range1 (by rfl) T.range (pa_cons pe_int pa_nil)) (blkOk_by (N := ["_law_folk", "_law_k", "_law_tag", "_law_j"]) (sc := defScope s_L_great) (by decide +kernel)) (fun _ _ _ _ _ => (pg_name (i := 3) sc_L_great.nd rfl (Or.inl rfl) (hf := .inr rfl))) (fun _ _ _ _ _ => pts_nil) (fun _ _ _ _ _ => (pe_op op_mod (pe_callTy call_int1 (by rfl) T.int boot_int (pa_cons (pe_op op_add (pv 1) (pe_callTy call_int1 (by rfl) T.int boot_int (pa_cons (pe_cmpR (eqS K hr.units) (pv 3) (pv 1) (nomark _)) pa_nil))) pa_nil)) pe_int))) pa_nil)) pa_nil))) pa_nil))))) (pss_one (ps_ret (pe_tup (pa_cons (pe_op (repT K) (pe_tup (pa_cons pe_int pa_nil)) pe_int) (pa_cons (pe_callTy (tupS K) (by rfl) T.tuple boot_tuple (pa_cons (pv 0) pa_nil)) (pa_cons (pe_callTy (tupS K) (by rfl) T.tuple boot_tuple (pa_cons (pe_lc (own := [("_law_k", 1)]) (g := gName 1) (tt := tYes) rfl sc_L_great.nd (pi_range1 (by rfl) T.range (pa_cons pe_int pa_nil)) (blkOk_by (N := ["_law_folk", "_law_k", "_law_tag", "_law_j"]) (sc := defScope s_L_great) (by decide +kernel)) (fun _ _ _ _ _ => (pg_name (i := 1) sc_L_great.nd rfl (Or.inl rfl) (hf := .inr rfl))) (fun _ _ _ _ _ => pts_nil) (fun _ _ _ _ _ => (pe_tup (pa_cons (pe_ix (ixS K) pe_str (pv 1) (fun _ _ => rfl)) (pa_cons (pe_ix (ixS K) pe_str (pe_op op_add (pv 1) pe_int) (fun _ _ => rfl)) pa_nil))))) pa_nil)) pa_nil)))))))), ?_⟩
  refine run_d e hd ?_ q
  refine sd_seq (sd_own (i := 0) (ef_lst ea_nil (by decide))) ?_
  refine sd_seq (sd_for (ds := enumD (charsD greatN)) greatG rfl (ei_enumS (ea_cons ed_str ea_nil)) ?_) ?_
  · intro k d hk
    obtain ⟨x, y, hx, hy, rfl⟩ := zipD_get hk
    have hk10 : k < 10 := (List.getElem?_eq_some_iff.mp hy).1
    have ex : x = .int (k : Int) := by
      rw [List.getElem?_map, List.getElem?_range (by show k < 10; exact hk10)] at hx
      exact (Option.some.inj hx).symm
    have ey : y = .str ⟨#[greatN.cps.toList.getD k 0]⟩ := by
      unfold charsD at hy
      rw [List.getElem?_map] at hy
      obtain ⟨c, hc, rfl⟩ := Option.map_eq_some_iff.mp hy
      rw [List.getD_eq_getElem?_getD, hc]
      rfl
    subst ex ey
    have ew : (greatW.take (k + 1)).map stD = (greatW.take k).map stD ++ [.tuple [.str ⟨#[greatN.cps.toList.getD k 0]⟩, greatE k]] := by
      have hg : greatW[k]? = some (⟨#[greatN.cps.toList.getD k 0]⟩, greatE k) := by
        unfold greatW
        rw [List.getElem?_map, List.getElem?_range hk10]
        rfl
      rw [List.take_add_one, hg, List.map_append]
      rfl
    refine ⟨_, [1, 2], gd_two (by decide) (by decide), ?_⟩
    rw [greatG_set]
    show SD K _ _ (.nx [.own ((greatW.take (k + 1)).map stD), .dat (.int (k : Int)), .dat (.str ⟨#[greatN.cps.toList.getD k 0]⟩), .any])
    rw [ew]
    refine sd_app (i := 0) (ds := (greatW.take k).map stD) rfl (ed_tup (ea_cons (ed_var (d := .str ⟨#[greatN.cps.toList.getD k 0]⟩) rfl) (ea_cons (EF.rd (ds := (List.range 20).map fun (j : Nat) => .int (((k : Int) + (if decide ((j : Int) = (k : Int)) then 1 else 0)) % 10)) ?_ |> ed_tupR) ea_nil)) (Nat.le_of_ble_eq_true rfl)) ?_
    · refine EF.is (ef_lc0 (f := fun x => match x with | .int j => .int (((k : Int) + (if decide (j = (k : Int)) then 1 else 0)) % 10) | _ => .none) (ei_rng1 (n := 20) (ea_cons ed_int ea_nil) (by decide)) (by decide) fun x hx => ?_) ?_
      · obtain ⟨j, _, rfl⟩ := List.mem_map.mp hx
        exact ⟨_, gd_name (List.mem_singleton.mpr rfl), ed_op (ed_int1I (ed_op (ed_var (d := .int (k : Int)) rfl) (ed_int1B (ed_op (ed_var (d := .int (j : Int)) rfl) (ed_var (d := .int (k : Int)) rfl) rd_eqI)) (rd_I0 fun _ => .int _))) ed_int (rd_I (by show (0 : Int) < 10; decide) fun _ => .int _)⟩
      · rw [List.map_map]
        rfl
    · rw [List.length_map]
      have := List.length_take_le k greatW
      omega
  · show SD K _ [.own ((greatW.take (9 + 1)).map stD), .dat (.int ((9 : Nat) : Int)), .dat (.str ⟨#[greatN.cps.toList.getD 9 0]⟩), .any] (.rt greatD)
    refine sd_ret ?_
    show ED K _ _ (.tuple [.tuple greatS, .tuple (greatW.map stD), .tuple (greatM.map pairM)])
    refine ed_tup (ea_cons ((ed_repT (ds := [.int 10]) (i := 20) (ed_tup (ea_cons ed_int ea_nil) (Nat.le_of_ble_eq_true rfl)) ed_int (by simp) (by decide) (by decide) (by decide)).is rfl) (ea_cons ((ed_tupR (er_own (ds := (greatW.take (9 + 1)).map stD) rfl)).is rfl) (ea_cons (ed_tupR (EF.rd (EF.is (ef_lc0 (f := fun x => match x with | .int k => pairM (⟨#[greatN.cps.toList.getD k.toNat 0]⟩, ⟨#[greatN.cps.toList.getD (k.toNat + 1) 0]⟩) | _ => .none) (ei_rng1 (n := 9) (ea_cons ed_int ea_nil) (by decide)) (by decide) fun x hx => ?_) ?_))) ea_nil))) (Nat.le_of_ble_eq_true rfl)
    · obtain ⟨j, hj, rfl⟩ := List.mem_map.mp hx
      have hj' : j < 9 := List.mem_range.mp hj
      have hlen : greatN.cps.toList.length = 10 := rfl
      have g1 : greatN.cps.toList[j]? = some (greatN.cps.toList.getD j 0) := by
        rw [List.getD_eq_getElem?_getD, List.getElem?_eq_getElem (by omega)]
        rfl
      have g2 : greatN.cps.toList[j + 1]? = some (greatN.cps.toList.getD (j + 1) 0) := by
        rw [List.getD_eq_getElem?_getD, List.getElem?_eq_getElem (by omega)]
        rfl
      exact ⟨_, gd_name (List.mem_singleton.mpr rfl), ed_tup (ea_cons (ed_op (x := .str greatN) ed_str (ed_var (d := .int (j : Int)) rfl) (rd_ixS (by decide) (atI_nat g1))) (ea_cons (ed_op (x := .str greatN) ed_str (ed_op (ed_var (d := .int (j : Int)) rfl) ed_int (rd_I0 (z := .int ((j : Int) + 1)) fun _ => .int _)) (rd_ixS (by decide) (atI_nat (j := j + 1) g2))) ea_nil)) (Nat.le_of_ble_eq_true rfl)⟩
    · rw [List.map_map]
      rfl
end
end Law

namespace Law
open PySem PySem.Spec PyProof.Rows L2 DL
open Evl (Ex)
open RZ
section
variable {P : Program} {w : World} {K : PySem.W.Frag} {mg : Str → Option Value} {base : Heap}
abbrev s_L_by_hand_right : Stmt := topS 20
theorem sc_L_by_hand_right : FnScope ["_law_web_here", "_law_rows_so", "_law_odd_so", "_law_got", "_law_far", "_law_matter"] [] (defScope s_L_by_hand_right) := ⟨rfl, rfl, rfl, by decide +kernel, rfl, by decide +kernel, by decide +kernel⟩
def handRows : List PyData := [.tuple [.str "a"], .tuple [.str "a", .str "b"], .tuple [.str "b", .str "a"], .tuple [.str "a", .str "b", .str "a"], .tuple [.str "a", .str "b", .str "c", .str "d", .str "a"], .tuple (List.replicate 30 [PyData.str "a", .str "b"]).flatten]
def handOdd : List PyData := [.tuple [], .tuple [.str "a", .str "c"], .tuple [.str "a", .str "a"], .tuple [.str "a", .str "b", .str "b"], .list [.str "a", .str "b"], .str "ab", .none, .tuple [.str "x"], .tuple [.str "a", .str "b", .str "d"], .tuple [.tuple [.str "a", .str "b"]], .tuple [.str "a", .int 0], .tuple [.int 0, .int 1]]
def sqN : List Str := ["a", "b", "c", "d"]
def grN : List Str := greatW.map (·.1)
def handEnd : List Bool := [isWalkB grN greatM (.tuple (charsD "abcdefghij")), isWalkB grN greatM (.tuple (charsD "jihgfedcba")), isWalkB grN greatM (.tuple [.str "a", .str "j"]), isWalkB sqN [] (.tuple [.str "a"]), isWalkB sqN [] (.tuple [.str "a", .str "b"])]
def handDue : List Bool := [true, true, true, true, true, true] ++ [false, false, false, false, false, false, false, false, false, false, false, false] ++ [true, true, false, true, false]
theorem hand_eq : (handRows ++ handOdd).map (isWalkB sqN squareM) ++ handEnd = handDue := by decide +kernel
theorem hand_fine : ∀ x ∈ handRows ++ handOdd, fine x = true := by decide +kernel
theorem square0_ok : WebOk [.int 2, .int 2] squareW [] := ⟨by decide +kernel, (fun _ z => nomatch z), by decide, by decide, by decide, by decide +kernel, by decide +kernel, by decide +kernel⟩
theorem ok_by_hand (X : Tx K mg "_law_by_hand_right" [] s_L_by_hand_right) (T : Bt mg) (D_L_square : Df P w K mg base 1 "_law_square" [] (spD K 0 fun ds r => ds = [] ∧ r = squareD)) (D_L_great : Df P w K mg base 1 "_law_great" [] (spD K 0 fun ds r => ds = [] ∧ r = greatD))
    (D_L_same : Df P w K mg base 3 "_law_same" ["_law_got", "_law_due"] (spD K 2 (domSame 3))) (D_is_walk : Df P w K mg base 3 "is_walk" ["chart", "thing"] (spD K 2 domWalk)) :
    Df P w K mg base 4 "_law_by_hand_right" [] (spD K 0 fun ds r => ds = [] ∧ r = .bool true) := by
  refine X.ok sc_L_by_hand_right (fun vs H Q E h => h.1.trans rfl) (fun f cdv A outer s H vs Q E hr h => ?_)
  obtain ⟨hl, Hd, ds, r, e, hd, ⟨rfl, rfl⟩, q⟩ := h
  refine ⟨_, (pss_cons (ps_set (i := 0) sc_L_by_hand_right.nd rfl (Or.inr rfl) (pe_def0 D_L_square hr (by omega))) (pss_cons (ps_set (i := 1) sc_L_by_hand_right.nd rfl (Or.inl rfl) (pe_lst (pa_cons (pe_tup (pa_cons pe_str pa_nil)) (pa_cons (pe_tup (pa_cons pe_str (pa_cons pe_str pa_nil))) (pa_cons (pe_tup (pa_cons pe_str (pa_cons pe_str pa_nil))) (pa_cons (pe_tup (pa_cons pe_str (pa_cons pe_str (pa_cons pe_str pa_nil)))) (pa_cons (pe_tup (pa_cons pe_str (pa_cons pe_str (pa_cons pe_str (pa_cons pe_str (pa_cons pe_str pa_nil)))))) (pa_cons (pe_op (repT K) (pe_tup (pa_cons pe_str (pa_cons pe_str pa_nil))) pe_int) pa_nil)))))))) (pss_cons (ps_set (i := 2) sc_L_by_hand_right.nd rfl (Or.inl rfl) (pe_lst (pa_cons (pe_tup pa_nil) (pa_cons (pe_tup (pa_cons pe_str (pa_cons pe_str pa_nil))) (pa_cons (pe_tup (pa_cons pe_str (pa_cons pe_str pa_nil))) (pa_cons (pe_tup (pa_cons pe_str (pa_cons pe_str (pa_cons pe_str pa_nil)))) (pa_cons (pe_lst (pa_cons pe_str (pa_cons pe_str pa_nil))) (pa_cons pe_str (pa_cons pe_non (pa_cons (pe_tup (pa_cons pe_str pa_nil)) (pa_cons (pe_tup (pa_cons pe_str (pa_cons pe_str (pa_cons pe_str pa_nil)))) (pa_cons (pe_tup (pa_cons (pe_tup (pa_cons pe_str (pa_cons pe_str pa_nil))) pa_nil)) (pa_cons (pe_tup (pa_cons pe_str (pa_cons pe_int pa_nil))) (pa_cons (pe_tup (pa_cons pe_int (pa_cons pe_int pa_nil))) pa_nil)))))))))))))) (pss_cons (ps_setLc (i := 3) (own := [("_law_matter", 5)]) (g := gName 5) (tt := tYes) rfl sc_L_by_hand_right.nd rfl rfl (sw_true rfl rfl rfl (by decide +kernel)) (piList K (pe_op op_cat (pv 1) (pv 2))) (blkOk_by (N := ["_law_web_here", "_law_rows_so", "_law_odd_so", "_law_got", "_law_far", "_law_matter"]) (sc := defScope s_L_by_hand_right) (by decide +kernel)) (fun _ _ _ _ _ => (pg_name (i := 5) sc_L_by_hand_right.nd rfl (Or.inl rfl) (hf := .inr rfl))) (fun _ _ _ _ _ => pts_nil) (fun _ _ _ _ _ => (pe_def D_is_walk hr (by omega) (pa_cons (pv 0) (pa_cons (pv 5) pa_nil))))) (pss_cons (ps_set (i := 4) sc_L_by_hand_right.nd rfl (Or.inl rfl) (pe_def0 D_L_great hr (by omega))) (pss_cons (ps_set (i := 3) sc_L_by_hand_right.nd rfl (Or.inl rfl) (pe_op op_cat (pv 3) (pe_lst (pa_cons (pe_def D_is_walk hr (by omega) (pa_cons (pv 4) (pa_cons (pe_callTy (call_tupS rfl) (by rfl) T.tuple boot_tuple (pa_cons pe_str pa_nil)) pa_nil))) (pa_cons (pe_def D_is_walk hr (by omega) (pa_cons (pv 4) (pa_cons (pe_callTy (call_tupS rfl) (by rfl) T.tuple boot_tuple (pa_cons pe_str pa_nil)) pa_nil))) (pa_cons (pe_def D_is_walk hr (by omega) (pa_cons (pv 4) (pa_cons (pe_tup (pa_cons pe_str (pa_cons pe_str pa_nil))) pa_nil))) (pa_cons (pe_def D_is_walk hr (by omega) (pa_cons (pe_tup (pa_cons (pe_ix (ixS K) (pv 0) pe_int (fun _ _ => rfl)) (pa_cons (pe_ix (ixS K) (pv 0) pe_int (fun _ _ => rfl)) (pa_cons (pe_tup pa_nil) pa_nil)))) (pa_cons (pe_tup (pa_cons pe_str pa_nil)) pa_nil))) (pa_cons (pe_def D_is_walk hr (by omega) (pa_cons (pe_tup (pa_cons (pe_ix (ixS K) (pv 0) pe_int (fun _ _ => rfl)) (pa_cons (pe_ix (ixS K) (pv 0) pe_int (fun _ _ => rfl)) (pa_cons (pe_tup pa_nil) pa_nil)))) (pa_cons (pe_tup (pa_cons pe_str (pa_cons pe_str pa_nil))) pa_nil))) pa_nil)))))))) (pss_one (ps_ret (pe_def D_L_same hr (by omega) (pa_cons (pv 3) (pa_cons (pe_op op_cat (pe_op op_cat (pe_op op_rep (pe_lst (pa_cons pe_bl pa_nil)) pe_int) (pe_op op_rep (pe_lst (pa_cons pe_bl pa_nil)) pe_int)) (pe_lst (pa_cons pe_bl (pa_cons pe_bl (pa_cons pe_bl (pa_cons pe_bl (pa_cons pe_bl pa_nil))))))) pa_nil))))))))))), ?_⟩
  refine run_d e hd ?_ q
  refine sd_seq (sd_set (d := squareD) (ed_call ea_nil rfl ⟨rfl, rfl⟩)) ?_
  refine sd_seq (sd_set (EF.dat (ef_lst (xs := handRows) ?_ (by decide)))) ?_
  · show EA K _ _ [.tuple [.str "a"], .tuple [.str "a", .str "b"], .tuple [.str "b", .str "a"], .tuple [.str "a", .str "b", .str "a"], .tuple [.str "a", .str "b", .str "c", .str "d", .str "a"], .tuple (List.replicate 30 [PyData.str "a", .str "b"]).flatten]
    repeat' first | exact ed_int | exact ed_str | exact ed_bl | exact ed_non | exact ea_nil | refine ea_cons ?_ ?_ | refine ed_tup ?_ (Nat.le_of_ble_eq_true rfl) | exact ed_repT (i := 30) (ed_tup (ea_cons ed_str (ea_cons ed_str ea_nil)) (Nat.le_of_ble_eq_true rfl)) ed_int (by simp) (by decide) (by decide) (by decide)
  refine sd_seq (sd_set (EF.dat (ef_lst (xs := handOdd) ?_ (by decide)))) ?_
  · show EA K _ _ [.tuple [], .tuple [.str "a", .str "c"], .tuple [.str "a", .str "a"], .tuple [.str "a", .str "b", .str "b"], .list [.str "a", .str "b"], .str "ab", .none, .tuple [.str "x"], .tuple [.str "a", .str "b", .str "d"], .tuple [.tuple [.str "a", .str "b"]], .tuple [.str "a", .int 0], .tuple [.int 0, .int 1]]
    repeat' first | exact ed_int | exact ed_str | exact ed_bl | exact ed_non | exact ea_nil | refine ea_cons ?_ ?_ | refine ed_tup ?_ (Nat.le_of_ble_eq_true rfl) | exact (ef_lst (ea_cons ed_str (ea_cons ed_str ea_nil)) (Nat.le_of_ble_eq_true rfl)).dat
  refine sd_seq (sd_set (d := .list (((handRows ++ handOdd).map (isWalkB sqN squareM)).map PyData.bool)) (EF.dat (EF.is (ef_lc0 (f := fun x => .bool (isWalkB sqN squareM x)) (ei_list (EF.dat (ef_op (ed_var (d := .list handRows) rfl) (ed_var (d := .list handOdd) rfl) (rf_cat (by decide))))) (by decide) fun x hx => ⟨_, gd_name (List.mem_singleton.mpr rfl), ed_call (ea_cons (ed_var (d := squareD) rfl) (ea_cons (ed_var (d := x) rfl) ea_nil)) rfl ⟨squareD, sqN, squareM, x, rfl, square_ok.chart, hand_fine x hx, rfl⟩⟩) (map_bool _)))) ?_
  refine sd_seq (sd_set (d := greatD) (ed_call ea_nil rfl ⟨rfl, rfl⟩)) ?_
  refine sd_seq (sd_set (d := .list (handDue.map PyData.bool)) (EF.dat (EF.is (ef_op (ds := ((handRows ++ handOdd).map (isWalkB sqN squareM)).map PyData.bool ++ handEnd.map PyData.bool) (ed_var (d := .list (((handRows ++ handOdd).map (isWalkB sqN squareM)).map PyData.bool)) rfl) (EF.dat (ef_lst (xs := handEnd.map PyData.bool) ?_ (by decide))) (rf_cat (by rw [List.length_map, List.length_map, List.length_map]; decide))) ?_))) ?_
  · show EA K _ _ [.bool (isWalkB grN greatM (.tuple (charsD "abcdefghij"))), .bool (isWalkB grN greatM (.tuple (charsD "jihgfedcba"))), .bool (isWalkB grN greatM (.tuple [.str "a", .str "j"])), .bool (isWalkB sqN [] (.tuple [.str "a"])), .bool (isWalkB sqN [] (.tuple [.str "a", .str "b"]))]
    have sq0 : ED K (tTup (tCons (tOp (rIx K) (tVar 0) (tC (.int 0))) (tCons (tOp (rIx K) (tVar 0) (tC (.int 1))) (tCons (tTup tNil) tNil)))) [.dat squareD, .dat (.list handRows), .dat (.list handOdd), .dat (.list (((handRows ++ handOdd).map (isWalkB sqN squareM)).map PyData.bool)), .dat greatD, .any] (webD [.int 2, .int 2] squareW []) :=
      ed_tup (ea_cons (ed_op (ed_var (d := squareD) rfl) ed_int (rd_ixT rfl)) (ea_cons (ed_op (ed_var (d := squareD) rfl) ed_int (rd_ixT rfl)) (ea_cons (ed_tup ea_nil (by decide)) ea_nil))) (Nat.le_of_ble_eq_true rfl)
    refine ea_cons (ed_call (ea_cons (ed_var (d := greatD) rfl) (ea_cons (ed_tupS ed_str (by decide)) ea_nil)) rfl ⟨greatD, grN, greatM, _, rfl, great_ok.chart, by decide +kernel, rfl⟩) ?_
    refine ea_cons (ed_call (ea_cons (ed_var (d := greatD) rfl) (ea_cons (ed_tupS ed_str (by decide)) ea_nil)) rfl ⟨greatD, grN, greatM, _, rfl, great_ok.chart, by decide +kernel, rfl⟩) ?_
    refine ea_cons (ed_call (ea_cons (ed_var (d := greatD) rfl) (ea_cons (ed_tup (ea_cons ed_str (ea_cons ed_str ea_nil)) (Nat.le_of_ble_eq_true rfl)) ea_nil)) rfl ⟨greatD, grN, greatM, _, rfl, great_ok.chart, by decide +kernel, rfl⟩) ?_
    refine ea_cons (ed_call (ea_cons sq0 (ea_cons (ed_tup (ea_cons ed_str ea_nil) (Nat.le_of_ble_eq_true rfl)) ea_nil)) rfl ⟨_, sqN, [], _, rfl, square0_ok.chart, by decide +kernel, rfl⟩) ?_
    exact ea_cons (ed_call (ea_cons sq0 (ea_cons (ed_tup (ea_cons ed_str (ea_cons ed_str ea_nil)) (Nat.le_of_ble_eq_true rfl)) ea_nil)) rfl ⟨_, sqN, [], _, rfl, square0_ok.chart, by decide +kernel, rfl⟩) ea_nil
  · rw [← List.map_append, hand_eq]
  refine sd_ret (ed_call (ea_cons (ed_var (d := .list (handDue.map PyData.bool)) rfl) (ea_cons (EF.dat (EF.is (es := handDue.map PyData.bool) (ef_op (EF.dat (ef_op (EF.dat (ef_rep (ds := [.bool true]) (i := 6) (ef_lst (ea_cons ed_bl ea_nil) (by decide)).dat ed_int (by decide) (by decide) (by decide))) (EF.dat (ef_rep (ds := [.bool false]) (i := 12) (ef_lst (ea_cons ed_bl ea_nil) (by decide)).dat ed_int (by decide) (by decide) (by decide))) (rf_cat (by decide)))) (EF.dat (ef_lst (xs := [.bool true, .bool true, .bool false, .bool true, .bool false]) (ea_cons ed_bl (ea_cons ed_bl (ea_cons ed_bl (ea_cons ed_bl (ea_cons ed_bl ea_nil))))) (by decide))) (rf_cat (by decide))) rfl)) ea_nil)) rfl ⟨.list (handDue.map PyData.bool), .list (handDue.map PyData.bool), rfl, by decide +kernel, by decide +kernel, by decide +kernel, ?_⟩)
  rfl
end
end Law

namespace Law
open PySem PySem.Spec PyProof.Rows L2 DL
open Evl (Ex)
open RZ
section
variable {P : Program} {w : World} {K : PySem.W.Frag} {mg : Str → Option Value} {base : Heap}
abbrev s_L_right : Stmt := topS 21
theorem sc_L_right : FnScope ["_law_tin", "_law_turn"] ["_law_tin"] (defScope s_L_right) := ⟨rfl, rfl, rfl, by decide +kernel, rfl, by decide +kernel, by decide +kernel⟩
def preNone (xs : List PyData) : Prop := xs = []
def domTrue (xs : List PyData) (r : PyData) : Prop := r = .bool true
theorem cd_all {bs : List Bool} : CD K (rAll K) [.list (bs.map PyData.bool)] (.bool (bs.all id)) := fun Hd H vs ex hv Q q => by
  cases hv with
  | cons g hv =>
    cases hv
    cases g with
    | @lst a ws _ g1 g2 => exact ⟨a, bs, rfl, SqL.of (by rw [ex _ _ g1, g2.ofBls]), q _ Hd H (.refl ex) (.bl _)⟩
theorem all_true : ∀ {qs : List PyData}, (∀ x ∈ qs, x = .bool true) → qs = (List.replicate qs.length true).map PyData.bool
  | [], _ => rfl
  | x :: qs, h => by
    rw [h x List.mem_cons_self]
    show PyData.bool true :: qs = PyData.bool true :: (List.replicate qs.length true).map PyData.bool
    rw [← all_true fun y hy => h y (List.mem_cons_of_mem _ hy)]
theorem all_rep : ∀ n : Nat, (List.replicate n true).all id = true
  | 0 => rfl
  | n + 1 => by rw [List.replicate_succ, List.all_cons, all_rep n]; rfl
theorem ok_right (X : Tx K mg "_law_right" ["_law_tin"] s_L_right) (T : Bt mg) (D_L_web : Df P w K mg base 3 "_law_web" ["_law_tin", "_law_tall", "_law_breadth", "_law_most", "_law_ties_so"] (spB K 4 10000000 preWeb domWeb)) (D_L_case_right : Df P w K mg base 7 "_law_case_right" ["_law_tin", "_law_web_here"] (spB K 1 1000 preCase domCase)) :
    Df P w K mg base 8 "_law_right" ["_law_tin"] (spB K 0 200000000 preNone domTrue) := by
  refine X.ok sc_L_right (fun vs H Q E h => h.1.trans rfl) (fun f cdv A outer s H vs Q E hr h => ?_)
  obtain ⟨hl, p, c, Hd, xs, o, ws, rfl, e, k0, ho, hb, hc, hd, rfl, q⟩ := h
  refine ⟨_, (pss_one (ps_ret (pe_callB (allS K) (by rfl) T.all (by decide +kernel) (pa_cons (pe_lc (own := [("_law_turn", 1)]) (g := gName 1) (tt := tYes) rfl sc_L_right.nd (pi_range1 (by rfl) T.range (pa_cons pe_int pa_nil)) (blkOk_by (N := ["_law_tin", "_law_turn"]) (sc := defScope s_L_right) (by decide +kernel)) (fun _ _ _ _ _ => (pg_name (i := 1) sc_L_right.nd rfl (Or.inl rfl) (hf := .inr rfl))) (fun _ _ _ _ _ => pts_nil) (fun _ _ _ _ _ => (pe_def D_L_case_right hr (by omega) (pa_cons (pv 0) (pa_cons (pe_def D_L_web hr (by omega) (pa_cons (pv 0) (pa_cons pe_int (pa_cons pe_int (pa_cons pe_int (pa_cons pe_int pa_nil)))))) pa_nil))))) pa_nil)))), ?_⟩
  refine run_b (dom := domTrue) e k0 ho hb hc hd (by decide) ?_ q
  refine (sb_ret (EB.le (n := 0 + 10 * (0 + 10000000 + 0 + 1000) + 0) (eb_cb (S := fun rs => ∃ n, rs = [.list ((List.replicate n true).map PyData.bool)]) (EAB.imp (eab_cons (eb_lc (M := 10) (Re := fun _ r => r = .bool true) (EI.bb (ei_rng1 (n := 10) (ea_cons ed_int ea_nil) (by decide))) (fun rs hrs => ?_) (by decide)) eab_nil) ?_) ?_) (by decide))).imp (fun _ z => z) (fun r h => h)
  · subst hrs
    refine ⟨by decide, fun r hr => ⟨_, gdb_name (List.mem_singleton.mpr rfl), EB.imp (eb_callB (ar := 1) (m := 1000) (pre := preCase) (dom := domCase) (S := preCase) rfl (EAB.imp (eab_cons (eb_callB (ar := 4) (m := 10000000) (pre := preWeb) (dom := domWeb) (S := fun xs => xs = [.int 6, .int 2, .int 3, .int 8]) rfl (EA.b (ea_cons ed_int (ea_cons ed_int (ea_cons ed_int (ea_cons ed_int ea_nil))))) ?_) eab_nil) ?_) ?_) ?_⟩⟩
    · rintro xs rfl
      exact ⟨rfl, 6, 2, 3, 8, rfl, by decide, by decide, by decide, by decide, by decide, by decide, by decide, by decide⟩
    · rintro rs ⟨r, rr, rfl, ⟨xs, _, wide, nws, ms, rfl, W⟩, rfl⟩
      exact ⟨wide, nws, ms, rfl, W⟩
    · rintro xs ⟨wide, nws, ms, rfl, W⟩
      exact ⟨rfl, wide, nws, ms, rfl, W⟩
    · rintro r ⟨_, _, h⟩
      exact h
  · rintro rs ⟨r, rr, rfl, ⟨rs, qs, rfl, _, hp⟩, rfl⟩
    refine ⟨qs.length, ?_⟩
    rw [← all_true fun x hx => ?_]
    obtain ⟨k, hk⟩ := List.getElem?_of_mem hx
    obtain ⟨_, _, h⟩ := pairGot hp hk
    exact h
  · rintro xs ⟨n, rfl⟩
    exact ⟨_, cd_all, by show PyData.bool _ = .bool true; rw [all_rep]⟩
abbrev s_law : Stmt := topS 22
theorem sc_law : FnScope ["_law_script", "_law_cells_here", "_law_k"] ["_law_script"] (defScope s_law) := ⟨rfl, rfl, rfl, by decide +kernel, rfl, by decide +kernel, by decide +kernel⟩
def spLaw (K : PySem.W.Frag) : Sp := fun vs H Q _ => ∃ (a : Addr) (ns : List Int), vs = [.ref a] ∧ SqL K H a (ns.map V.int) ∧ ns.length ≤ 63 ∧ ∀ H', Q (.bl true) H'
theorem ed_run {Γ : List G} {ms : List Int} {j : Nat} {N : Nat} (h1 : Γ[1]? = some (.dat (.list (ms.map PyData.int)))) (h2 : Γ[2]? = some (.dat (.int (j : Int)))) (hj : j < ms.length) (hl : ms.length ≤ 1000) (hN : 0 + N < 2 ^ 60) :
    ED K (tCall (spB K 0 N preNone domTrue) [] E0 (tCons (tCall spBox [] E0 (tCons (tVar 1) (tCons (tVar 2) tNil))) tNil)) Γ (.bool true) := fun _ _ σ Hd H e Q q => by
  obtain ⟨v1, s1, d1⟩ := e.dat h1
  obtain ⟨v2, s2, d2⟩ := e.dat h2
  cases d2
  cases d1 with
  | @lst a ws _ g1 g2 =>
    have ew := g2.ofInts
    subst ew
    refine ⟨_, s1, _, s2, a, ms, j, rfl, e.x.i _ _ g1, hj, hl, fun p o hp hb => ?_⟩
    have hid : hid p (upd H p o) = H := by
      funext x
      unfold DL.hid
      by_cases z : x = p
      · rw [if_pos z, z, hp]
      · rw [if_neg z, upd_ne z]
    refine ⟨rfl, p, 0, Hd, [], o, [], rfl, e.x.i.trans (Ex.new hp), Evl.fresh_back e.x.i hp, upd_same, hb, hN, .nil, rfl, fun v r Hd' H' hr x _ _ dv => ?_⟩
    rw [hid] at x
    rw [show r = .bool true from hr] at dv
    exact q v Hd' H' x dv
theorem body_law (T : Bt mg) (D_L_by_hand_right : Df P w K mg base 4 "_law_by_hand_right" [] (spD K 0 fun ds r => ds = [] ∧ r = .bool true)) (D_L_cells : Df P w K mg base 1 "_law_cells" ["_law_script", "_law_most"] (spCells K)) (D_L_box : Df P w K mg base 1 "_law_box" ["_law_script", "_law_k"] spBox)
    (D_L_right : Df P w K mg base 8 "_law_right" ["_law_tin"] (spB K 0 200000000 preNone domTrue)) : ∀ (f : Addr) (cdv : Value) (A : Around) (outer : List Env) (s : Shared) (H : Hp) (vs : List V) (Q : VK) (E : XK), Room 8 (A.deeper (envOfC "law" (defScope s_law) s.heap.objs.size f cdv)) → spLaw K vs H Q E →
      ∃ t, PSs (cxOf CX0 P w K mg base ["_law_script", "_law_cells_here", "_law_k"] "law" (defScope s_law) f cdv A outer s H E).nox (defBody s_law) t ∧ t { nx := fun _ H' => Q .non H', rt := Q } (L2.start ["_law_script", "_law_cells_here", "_law_k"] vs) H := by
  intro f cdv A outer s H vs Q E hr h
  obtain ⟨a, ns, rfl, ha, hn, q⟩ := h
  refine ⟨_, (pss_cons (ps_if (pt_not (pt_val (pe_def0 D_L_by_hand_right hr (by omega)))) (pss_one (ps_ret pe_bl)) pss_nil) (pss_cons (ps_set (i := 1) sc_law.nd rfl (Or.inr rfl) (pe_def D_L_cells hr (by omega) (pa_cons (pv 0) (pa_cons pe_int pa_nil)))) (pss_one (ps_ret (pe_callB (allS K) (by rfl) T.all (by decide +kernel) (pa_cons (pe_lc (own := [("_law_k", 2)]) (g := gName 2) (tt := tYes) rfl sc_law.nd (pi_range1 (by rfl) T.range (pa_cons (pe_callB (lenS K) (by rfl) T.len PySem.boot_len (pa_cons (pv 1) pa_nil)) pa_nil)) (blkOk_by (N := ["_law_script", "_law_cells_here", "_law_k"]) (sc := defScope s_law) (by decide +kernel)) (fun _ _ _ _ _ => (pg_name (i := 2) sc_law.nd rfl (Or.inl rfl) (hf := .inr rfl))) (fun _ _ _ _ _ => pts_nil) (fun _ _ _ _ _ => (pe_def D_L_right hr (by omega) (pa_cons (pe_def D_L_box hr (by omega) (pa_cons (pv 1) (pa_cons (pv 2) pa_nil))) pa_nil)))) pa_nil)))))), ?_⟩
  refine ⟨rfl, fun _ => none, [], _, (fun _ _ z => nomatch z), .nil, ⟨rfl, rfl⟩, fun v Hd1 H1 x1 dv => ?_⟩
  cases dv
  refine ⟨true, rfl, iteF ?_⟩
  have ha1 := Evl.ex_l x1.h ha
  refine ⟨_, rfl, a, ns, 3, rfl, ha1, hn, by decide, by decide, fun p ms H2 hp e2 l1 l3 h2 => ?_⟩
  have e : Ex (upd (fun _ => none) p (.lst (ms.map V.int))) H2 := fun x o hx => by
    by_cases z : x = p
    · subst z; rw [upd_same] at hx; cases hx; exact h2
    · rw [upd_ne z] at hx; cases hx
  have en : En K (upd (fun _ => none) p (.lst (ms.map V.int))) H2 [.any, .dat (.list (ms.map PyData.int)), .any] [some (.ref a), some (.ref p), none] (upd (fun _ => none) p (.lst (ms.map V.int))) H2 := by
    refine ⟨.refl e, rfl, fun i g hg => ?_, fun i j fs es w _ h1 _ _ _ => ?_⟩
    · match i, hg with
      | 0, hg => cases hg; trivial
      | 1, hg => cases hg; exact ⟨_, rfl, .lst upd_same (DtA.ints ms)⟩
      | 2, hg => cases hg; trivial
      | i + 3, hg => cases hg
    · match i, h1 with
      | 0, h => cases h
      | 1, h => cases h
      | 2, h => cases h
      | i + 3, h => cases h
  have hl : ((List.range ((ms.map PyData.int).length : Int).toNat).map fun (k : Nat) => PyData.int (k : Int)).length ≤ 100000 := by
    rw [List.length_map, List.length_range, List.length_map]; omega
  refine ed_all (bs := (List.range ((ms.map PyData.int).length : Int).toNat).map fun _ => true) (EF.rd (EF.is (ef_lc0 (f := fun _ => .bool true) (ei_rng1 (ea_cons (ed_lenR (ed_var (d := .list (ms.map PyData.int)) rfl).rd) ea_nil) (by rw [List.length_map]; omega)) hl fun d hdm => ?_) ?_)) _ _ _ _ _ en _ fun v Hd3 H3 x3 dv => ?_
  · obtain ⟨j, hj, rfl⟩ := List.mem_map.mp hdm
    have hj' := List.mem_range.mp hj
    rw [List.length_map] at hj'
    exact ⟨_, gd_name (List.mem_singleton.mpr rfl), ed_run rfl rfl (by omega) (by omega) (by decide)⟩
  · rw [List.map_map, List.map_map]
    rfl
  · have eb : ((List.range ((ms.map PyData.int).length : Int).toNat).map fun _ => true).all id = true := by simp
    rw [eb] at dv
    cases dv
    exact q H3
end
end Law

namespace Law
open PySem PySem.Spec PyProof.Rows L2 DL
open Evl (Ex)
open RZ
theorem all_mk {l : PySem.W.OpenLaw} {w : World} {K : PySem.W.Frag} {h : Heap} {mg : Str → Option Value} {fa : Addr} (X : K.In h) (G : h.Ns mainGlobals mg) (hfa : mg "law" = some (.ref fa))
    {f0 : Addr} {od0 an0 : Option Addr} {sl0 : Array (Option Value)} {oc0 kV0 dc0 pm0 cd0 ct0 : Value} (a0 : PySem.W.nsIn K mainGlobals "names" = some (some (.ref f0))) (l0 : K.lookup f0 = some ⟨oc0, od0, .func (PySem.W.fnOf "names" "names" (defArgs s_names) (defBody s_names) (defScope s_names) .none kV0 dc0 pm0 an0 cd0 ct0), sl0⟩) (c0 : PySem.W.codeIn K cd0 "names" = true) (k0 : PySem.W.keepIn K (.ref f0) = true)
    {f1 : Addr} {od1 an1 : Option Addr} {sl1 : Array (Option Value)} {oc1 kV1 dc1 pm1 cd1 ct1 : Value} (a1 : PySem.W.nsIn K mainGlobals "near_by_name" = some (some (.ref f1))) (l1 : K.lookup f1 = some ⟨oc1, od1, .func (PySem.W.fnOf "near_by_name" "near_by_name" (defArgs s_near_by_name) (defBody s_near_by_name) (defScope s_near_by_name) .none kV1 dc1 pm1 an1 cd1 ct1), sl1⟩) (c1 : PySem.W.codeIn K cd1 "near_by_name" = true) (k1 : PySem.W.keepIn K (.ref f1) = true)
    {f2 : Addr} {od2 an2 : Option Addr} {sl2 : Array (Option Value)} {oc2 kV2 dc2 pm2 cd2 ct2 : Value} (a2 : PySem.W.nsIn K mainGlobals "is_walk" = some (some (.ref f2))) (l2 : K.lookup f2 = some ⟨oc2, od2, .func (PySem.W.fnOf "is_walk" "is_walk" (defArgs s_is_walk) (defBody s_is_walk) (defScope s_is_walk) .none kV2 dc2 pm2 an2 cd2 ct2), sl2⟩) (c2 : PySem.W.codeIn K cd2 "is_walk" = true) (k2 : PySem.W.keepIn K (.ref f2) = true)
    {f3 : Addr} {od3 an3 : Option Addr} {sl3 : Array (Option Value)} {oc3 kV3 dc3 pm3 cd3 ct3 : Value} (a3 : PySem.W.nsIn K mainGlobals "_law_take" = some (some (.ref f3))) (l3 : K.lookup f3 = some ⟨oc3, od3, .func (PySem.W.fnOf "_law_take" "_law_take" (defArgs s_L_take) (defBody s_L_take) (defScope s_L_take) .none kV3 dc3 pm3 an3 cd3 ct3), sl3⟩) (c3 : PySem.W.codeIn K cd3 "_law_take" = true) (k3 : PySem.W.keepIn K (.ref f3) = true)
    {f4 : Addr} {od4 an4 : Option Addr} {sl4 : Array (Option Value)} {oc4 kV4 dc4 pm4 cd4 ct4 : Value} (a4 : PySem.W.nsIn K mainGlobals "_law_of" = some (some (.ref f4))) (l4 : K.lookup f4 = some ⟨oc4, od4, .func (PySem.W.fnOf "_law_of" "_law_of" (defArgs s_L_of) (defBody s_L_of) (defScope s_L_of) .none kV4 dc4 pm4 an4 cd4 ct4), sl4⟩) (c4 : PySem.W.codeIn K cd4 "_law_of" = true) (k4 : PySem.W.keepIn K (.ref f4) = true)
    {f5 : Addr} {od5 an5 : Option Addr} {sl5 : Array (Option Value)} {oc5 kV5 dc5 pm5 cd5 ct5 : Value} (a5 : PySem.W.nsIn K mainGlobals "_law_box" = some (some (.ref f5))) (l5 : K.lookup f5 = some ⟨oc5, od5, .func (PySem.W.fnOf "_law_box" "_law_box" (defArgs s_L_box) (defBody s_L_box) (defScope s_L_box) .none kV5 dc5 pm5 an5 cd5 ct5), sl5⟩) (c5 : PySem.W.codeIn K cd5 "_law_box" = true) (k5 : PySem.W.keepIn K (.ref f5) = true)
    {f6 : Addr} {od6 an6 : Option Addr} {sl6 : Array (Option Value)} {oc6 kV6 dc6 pm6 cd6 ct6 : Value} (a6 : PySem.W.nsIn K mainGlobals "_law_cells" = some (some (.ref f6))) (l6 : K.lookup f6 = some ⟨oc6, od6, .func (PySem.W.fnOf "_law_cells" "_law_cells" (defArgs s_L_cells) (defBody s_L_cells) (defScope s_L_cells) .none kV6 dc6 pm6 an6 cd6 ct6), sl6⟩) (c6 : PySem.W.codeIn K cd6 "_law_cells" = true) (k6 : PySem.W.keepIn K (.ref f6) = true)
    {f7 : Addr} {od7 an7 : Option Addr} {sl7 : Array (Option Value)} {oc7 kV7 dc7 pm7 cd7 ct7 : Value} (a7 : PySem.W.nsIn K mainGlobals "_law_pick" = some (some (.ref f7))) (l7 : K.lookup f7 = some ⟨oc7, od7, .func (PySem.W.fnOf "_law_pick" "_law_pick" (defArgs s_L_pick) (defBody s_L_pick) (defScope s_L_pick) .none kV7 dc7 pm7 an7 cd7 ct7), sl7⟩) (c7 : PySem.W.codeIn K cd7 "_law_pick" = true) (k7 : PySem.W.keepIn K (.ref f7) = true)
    {f8 : Addr} {od8 an8 : Option Addr} {sl8 : Array (Option Value)} {oc8 kV8 dc8 pm8 cd8 ct8 : Value} (a8 : PySem.W.nsIn K mainGlobals "_law_lists" = some (some (.ref f8))) (l8 : K.lookup f8 = some ⟨oc8, od8, .func (PySem.W.fnOf "_law_lists" "_law_lists" (defArgs s_L_lists) (defBody s_L_lists) (defScope s_L_lists) .none kV8 dc8 pm8 an8 cd8 ct8), sl8⟩) (c8 : PySem.W.codeIn K cd8 "_law_lists" = true) (k8 : PySem.W.keepIn K (.ref f8) = true)
    {f9 : Addr} {od9 an9 : Option Addr} {sl9 : Array (Option Value)} {oc9 kV9 dc9 pm9 cd9 ct9 : Value} (a9 : PySem.W.nsIn K mainGlobals "_law_same" = some (some (.ref f9))) (l9 : K.lookup f9 = some ⟨oc9, od9, .func (PySem.W.fnOf "_law_same" "_law_same" (defArgs s_L_same) (defBody s_L_same) (defScope s_L_same) .none kV9 dc9 pm9 an9 cd9 ct9), sl9⟩) (c9 : PySem.W.codeIn K cd9 "_law_same" = true) (k9 : PySem.W.keepIn K (.ref f9) = true)
    {f10 : Addr} {od10 an10 : Option Addr} {sl10 : Array (Option Value)} {oc10 kV10 dc10 pm10 cd10 ct10 : Value} (a10 : PySem.W.nsIn K mainGlobals "_law_web" = some (some (.ref f10))) (l10 : K.lookup f10 = some ⟨oc10, od10, .func (PySem.W.fnOf "_law_web" "_law_web" (defArgs s_L_web) (defBody s_L_web) (defScope s_L_web) .none kV10 dc10 pm10 an10 cd10 ct10), sl10⟩) (c10 : PySem.W.codeIn K cd10 "_law_web" = true) (k10 : PySem.W.keepIn K (.ref f10) = true)
    {f11 : Addr} {od11 an11 : Option Addr} {sl11 : Array (Option Value)} {oc11 kV11 dc11 pm11 cd11 ct11 : Value} (a11 : PySem.W.nsIn K mainGlobals "_law_near" = some (some (.ref f11))) (l11 : K.lookup f11 = some ⟨oc11, od11, .func (PySem.W.fnOf "_law_near" "_law_near" (defArgs s_L_near) (defBody s_L_near) (defScope s_L_near) .none kV11 dc11 pm11 an11 cd11 ct11), sl11⟩) (c11 : PySem.W.codeIn K cd11 "_law_near" = true) (k11 : PySem.W.keepIn K (.ref f11) = true)
    {f12 : Addr} {od12 an12 : Option Addr} {sl12 : Array (Option Value)} {oc12 kV12 dc12 pm12 cd12 ct12 : Value} (a12 : PySem.W.nsIn K mainGlobals "_law_tags" = some (some (.ref f12))) (l12 : K.lookup f12 = some ⟨oc12, od12, .func (PySem.W.fnOf "_law_tags" "_law_tags" (defArgs s_L_tags) (defBody s_L_tags) (defScope s_L_tags) .none kV12 dc12 pm12 an12 cd12 ct12), sl12⟩) (c12 : PySem.W.codeIn K cd12 "_law_tags" = true) (k12 : PySem.W.keepIn K (.ref f12) = true)
    {f13 : Addr} {od13 an13 : Option Addr} {sl13 : Array (Option Value)} {oc13 kV13 dc13 pm13 cd13 ct13 : Value} (a13 : PySem.W.nsIn K mainGlobals "_law_square" = some (some (.ref f13))) (l13 : K.lookup f13 = some ⟨oc13, od13, .func (PySem.W.fnOf "_law_square" "_law_square" (defArgs s_L_square) (defBody s_L_square) (defScope s_L_square) .none kV13 dc13 pm13 an13 cd13 ct13), sl13⟩) (c13 : PySem.W.codeIn K cd13 "_law_square" = true) (k13 : PySem.W.keepIn K (.ref f13) = true)
    {f14 : Addr} {od14 an14 : Option Addr} {sl14 : Array (Option Value)} {oc14 kV14 dc14 pm14 cd14 ct14 : Value} (a14 : PySem.W.nsIn K mainGlobals "_law_great" = some (some (.ref f14))) (l14 : K.lookup f14 = some ⟨oc14, od14, .func (PySem.W.fnOf "_law_great" "_law_great" (defArgs s_L_great) (defBody s_L_great) (defScope s_L_great) .none kV14 dc14 pm14 an14 cd14 ct14), sl14⟩) (c14 : PySem.W.codeIn K cd14 "_law_great" = true) (k14 : PySem.W.keepIn K (.ref f14) = true)
    {f15 : Addr} {od15 an15 : Option Addr} {sl15 : Array (Option Value)} {oc15 kV15 dc15 pm15 cd15 ct15 : Value} (a15 : PySem.W.nsIn K mainGlobals "_law_is_path" = some (some (.ref f15))) (l15 : K.lookup f15 = some ⟨oc15, od15, .func (PySem.W.fnOf "_law_is_path" "_law_is_path" (defArgs s_L_is_path) (defBody s_L_is_path) (defScope s_L_is_path) .none kV15 dc15 pm15 an15 cd15 ct15), sl15⟩) (c15 : PySem.W.codeIn K cd15 "_law_is_path" = true) (k15 : PySem.W.keepIn K (.ref f15) = true)
    {f16 : Addr} {od16 an16 : Option Addr} {sl16 : Array (Option Value)} {oc16 kV16 dc16 pm16 cd16 ct16 : Value} (a16 : PySem.W.nsIn K mainGlobals "_law_case_right" = some (some (.ref f16))) (l16 : K.lookup f16 = some ⟨oc16, od16, .func (PySem.W.fnOf "_law_case_right" "_law_case_right" (defArgs s_L_case_right) (defBody s_L_case_right) (defScope s_L_case_right) .none kV16 dc16 pm16 an16 cd16 ct16), sl16⟩) (c16 : PySem.W.codeIn K cd16 "_law_case_right" = true) (k16 : PySem.W.keepIn K (.ref f16) = true)
    {f17 : Addr} {od17 an17 : Option Addr} {sl17 : Array (Option Value)} {oc17 kV17 dc17 pm17 cd17 ct17 : Value} (a17 : PySem.W.nsIn K mainGlobals "_law_by_hand_right" = some (some (.ref f17))) (l17 : K.lookup f17 = some ⟨oc17, od17, .func (PySem.W.fnOf "_law_by_hand_right" "_law_by_hand_right" (defArgs s_L_by_hand_right) (defBody s_L_by_hand_right) (defScope s_L_by_hand_right) .none kV17 dc17 pm17 an17 cd17 ct17), sl17⟩) (c17 : PySem.W.codeIn K cd17 "_law_by_hand_right" = true) (k17 : PySem.W.keepIn K (.ref f17) = true)
    {f18 : Addr} {od18 an18 : Option Addr} {sl18 : Array (Option Value)} {oc18 kV18 dc18 pm18 cd18 ct18 : Value} (a18 : PySem.W.nsIn K mainGlobals "_law_right" = some (some (.ref f18))) (l18 : K.lookup f18 = some ⟨oc18, od18, .func (PySem.W.fnOf "_law_right" "_law_right" (defArgs s_L_right) (defBody s_L_right) (defScope s_L_right) .none kV18 dc18 pm18 an18 cd18 ct18), sl18⟩) (c18 : PySem.W.codeIn K cd18 "_law_right" = true) (k18 : PySem.W.keepIn K (.ref f18) = true)
    {f19 : Addr} {od19 an19 : Option Addr} {sl19 : Array (Option Value)} {oc19 kV19 dc19 pm19 cd19 ct19 : Value} (a19 : PySem.W.nsIn K mainGlobals "law" = some (some (.ref f19))) (l19 : K.lookup f19 = some ⟨oc19, od19, .func (PySem.W.fnOf "law" "law" (defArgs s_law) (defBody s_law) (defScope s_law) .none kV19 dc19 pm19 an19 cd19 ct19), sl19⟩) (c19 : PySem.W.codeIn K cd19 "law" = true) (k19 : PySem.W.keepIn K (.ref f19) = true)
    (z_len : PySem.W.nsIn K mainGlobals "len" = some none)
    (z_abs : PySem.W.nsIn K mainGlobals "abs" = some none)
    (z_int : PySem.W.nsIn K mainGlobals "int" = some none)
    (z_list : PySem.W.nsIn K mainGlobals "list" = some none)
    (z_tuple : PySem.W.nsIn K mainGlobals "tuple" = some none)
    (z_dict : PySem.W.nsIn K mainGlobals "dict" = some none)
    (z_bool : PySem.W.nsIn K mainGlobals "bool" = some none)
    (z_str : PySem.W.nsIn K mainGlobals "str" = some none)
    (z_range : PySem.W.nsIn K mainGlobals "range" = some none)
    (z_zip : PySem.W.nsIn K mainGlobals "zip" = some none)
    (z_enumerate : PySem.W.nsIn K mainGlobals "enumerate" = some none)
    (z_all : PySem.W.nsIn K mainGlobals "all" = some none)
    (z_isinstance : PySem.W.nsIn K mainGlobals "isinstance" = some none)
    (z_sorted : PySem.W.nsIn K mainGlobals "sorted" = some none)
    (z_min : PySem.W.nsIn K mainGlobals "min" = some none)
    : ∃ fd : FuncData, (∀ (s : Shared) (v : Value), BindsTo s fd ⟨[v], []⟩ [("_law_script", v)]) ∧ ∀ base : Heap, K.In base → base.Ns mainGlobals mg → FnOk l.prog w K mg base CX0 9 fa fd ["_law_script"] (spLaw K) := by
  have e := hfa.symm.trans (PySem.W.mg_of X G a19)
  cases e
  have FL := fun_mk (st := s_law) l19 c19 k19
  have T : Bt mg := ⟨PySem.W.mg_none_of X G z_len, PySem.W.mg_none_of X G z_abs, PySem.W.mg_none_of X G z_int, PySem.W.mg_none_of X G z_list, PySem.W.mg_none_of X G z_tuple, PySem.W.mg_none_of X G z_dict, PySem.W.mg_none_of X G z_bool, PySem.W.mg_none_of X G z_str, PySem.W.mg_none_of X G z_range, PySem.W.mg_none_of X G z_zip, PySem.W.mg_none_of X G z_enumerate, PySem.W.mg_none_of X G z_all, PySem.W.mg_none_of X G z_isinstance, PySem.W.mg_none_of X G z_sorted, PySem.W.mg_none_of X G z_min⟩
  have X0 : Tx K mg "names" ["chart"] s_names := tx_mk X G a0 l0 c0 k0 fun _ _ _ _ _ _ us hl => match us, hl with | [_], _ => rfl
  have X1 : Tx K mg "near_by_name" ["chart"] s_near_by_name := tx_mk X G a1 l1 c1 k1 fun _ _ _ _ _ _ us hl => match us, hl with | [_], _ => rfl
  have X2 : Tx K mg "is_walk" ["chart", "thing"] s_is_walk := tx_mk X G a2 l2 c2 k2 fun _ _ _ _ _ _ us hl => match us, hl with | [_, _], _ => rfl
  have X3 : Tx K mg "_law_take" ["_law_tin", "_law_top_so"] s_L_take := tx_mk X G a3 l3 c3 k3 fun _ _ _ _ _ _ us hl => match us, hl with | [_, _], _ => rfl
  have X4 : Tx K mg "_law_of" ["_law_tin", "_law_pool"] s_L_of := tx_mk X G a4 l4 c4 k4 fun _ _ _ _ _ _ us hl => match us, hl with | [_, _], _ => rfl
  have X5 : Tx K mg "_law_box" ["_law_script", "_law_k"] s_L_box := tx_mk X G a5 l5 c5 k5 fun _ _ _ _ _ _ us hl => match us, hl with | [_, _], _ => rfl
  have X6 : Tx K mg "_law_cells" ["_law_script", "_law_most"] s_L_cells := tx_mk X G a6 l6 c6 k6 fun _ _ _ _ _ _ us hl => match us, hl with | [_, _], _ => rfl
  have X7 : Tx K mg "_law_pick" ["_law_tin", "_law_pool", "_law_size_so"] s_L_pick := tx_mk X G a7 l7 c7 k7 fun _ _ _ _ _ _ us hl => match us, hl with | [_, _, _], _ => rfl
  have X8 : Tx K mg "_law_lists" ["_law_matter"] s_L_lists := tx_mk X G a8 l8 c8 k8 fun _ _ _ _ _ _ us hl => match us, hl with | [_], _ => rfl
  have X9 : Tx K mg "_law_same" ["_law_got", "_law_due"] s_L_same := tx_mk X G a9 l9 c9 k9 fun _ _ _ _ _ _ us hl => match us, hl with | [_, _], _ => rfl
  have X10 : Tx K mg "_law_web" ["_law_tin", "_law_tall", "_law_breadth", "_law_most", "_law_ties_so"] s_L_web := tx_mk X G a10 l10 c10 k10 fun _ _ _ _ _ _ us hl => match us, hl with | [_, _, _, _, _], _ => rfl
  have X11 : Tx K mg "_law_near" ["_law_web_here", "_law_tag"] s_L_near := tx_mk X G a11 l11 c11 k11 fun _ _ _ _ _ _ us hl => match us, hl with | [_, _], _ => rfl
  have X12 : Tx K mg "_law_tags" ["_law_web_here"] s_L_tags := tx_mk X G a12 l12 c12 k12 fun _ _ _ _ _ _ us hl => match us, hl with | [_], _ => rfl
  have X13 : Tx K mg "_law_square" [] s_L_square := tx_mk X G a13 l13 c13 k13 fun _ _ _ _ _ _ us hl => match us, hl with | [], _ => rfl
  have X14 : Tx K mg "_law_great" [] s_L_great := tx_mk X G a14 l14 c14 k14 fun _ _ _ _ _ _ us hl => match us, hl with | [], _ => rfl
  have X15 : Tx K mg "_law_is_path" ["_law_web_here", "_law_matter"] s_L_is_path := tx_mk X G a15 l15 c15 k15 fun _ _ _ _ _ _ us hl => match us, hl with | [_, _], _ => rfl
  have X16 : Tx K mg "_law_case_right" ["_law_tin", "_law_web_here"] s_L_case_right := tx_mk X G a16 l16 c16 k16 fun _ _ _ _ _ _ us hl => match us, hl with | [_, _], _ => rfl
  have X17 : Tx K mg "_law_by_hand_right" [] s_L_by_hand_right := tx_mk X G a17 l17 c17 k17 fun _ _ _ _ _ _ us hl => match us, hl with | [], _ => rfl
  have X18 : Tx K mg "_law_right" ["_law_tin"] s_L_right := tx_mk X G a18 l18 c18 k18 fun _ _ _ _ _ _ us hl => match us, hl with | [_], _ => rfl
  refine ⟨_, fun s v => .of_eq rfl, fun base _ _ => FL.ok sc_law (fun vs H Q E h => ?_) ?_⟩
  · obtain ⟨a, ns, rfl, _⟩ := h
    rfl
  have D_names := ok_names (P := l.prog) (w := w) (base := base) X0 T
  have D_near := ok_near (P := l.prog) (w := w) (base := base) X1 T D_names
  have D_walk2 := ok_is_walk (P := l.prog) (w := w) (base := base) X2 T D_near
  have D_take := ok_take (P := l.prog) (w := w) (base := base) X3 T
  have D_of := ok_of (P := l.prog) (w := w) (base := base) X4 T D_take
  have D_box := ok_box (P := l.prog) (w := w) (base := base) X5 T
  have D_cells := ok_cells (P := l.prog) (w := w) (base := base) X6 T
  have D_pick := ok_pick (P := l.prog) (w := w) (base := base) X7 T D_take
  have D_lists := ok_lists (P := l.prog) (w := w) (base := base) X8 T 6
  have D_same := ok_same (P := l.prog) (w := w) (base := base) X9 T 3
  have D_web := ok_web (P := l.prog) (w := w) (base := base) X10 T D_take D_pick
  have D_wnear := ok_wnear (P := l.prog) (w := w) (base := base) X11 T
  have D_tags := ok_tags (P := l.prog) (w := w) (base := base) X12 T
  have D_square := ok_square (P := l.prog) (w := w) (base := base) X13 T
  have D_great := ok_great (P := l.prog) (w := w) (base := base) X14 T
  have D_is_path := ok_is_path (P := l.prog) (w := w) (base := base) X15 T D_tags D_wnear
  have D_case := ok_case (P := l.prog) (w := w) (base := base) X16 T D_take D_of D_lists D_same D_tags D_wnear D_is_path D_walk2.1 D_walk2.2
  have D_hand := ok_by_hand (P := l.prog) (w := w) (base := base) X17 T D_square D_great D_same D_walk2.1
  have D_right := ok_right (P := l.prog) (w := w) (base := base) X18 T D_web D_case
  exact body_law T D_hand D_cells D_box D_right _
end Law
open PySem PySem.W PyProof.Rows
set_option maxHeartbeats 0 in
theorem PySem.Challenge.cw_oldornew_k32_walks_or_none_holds : PySem.Challenge.rw_oldornew_k32_walks_or_none.Holds := by
  w_on; o_law; k_head; (case hw => w_witness2)
  k_fill
  refine L2.walk_of (l := PySem.Challenge.rw_oldornew_k32_walks_or_none) (n := 63) (k := 9) (x := "_law_script") (CX := fun _ => L2.CX0) (sp := fun w => Law.spLaw _) rfl (by decide) rfl ⟨rfl, by decide, by decide⟩ (fun w h Y => PySem.W.kIn_of Y) ?F (fun _ _ a ns hl _ hS => ⟨a, ns, rfl, hS, hl, fun _ => rfl⟩) (fun _ _ _ _ _ h => h)
  case F =>
    intro w mg fa h KX G hmg
    refine' Law.all_mk KX G hmg ?a0 ?l0 ?c0 ?k0 ?a1 ?l1 ?c1 ?k1 ?a2 ?l2 ?c2 ?k2 ?a3 ?l3 ?c3 ?k3 ?a4 ?l4 ?c4 ?k4 ?a5 ?l5 ?c5 ?k5 ?a6 ?l6 ?c6 ?k6 ?a7 ?l7 ?c7 ?k7 ?a8 ?l8 ?c8 ?k8 ?a9 ?l9 ?c9 ?k9 ?a10 ?l10 ?c10 ?k10 ?a11 ?l11 ?c11 ?k11 ?a12 ?l12 ?c12 ?k12 ?a13 ?l13 ?c13 ?k13 ?a14 ?l14 ?c14 ?k14 ?a15 ?l15 ?c15 ?k15 ?a16 ?l16 ?c16 ?k16 ?a17 ?l17 ?c17 ?k17 ?a18 ?l18 ?c18 ?k18 ?a19 ?l19 ?c19 ?k19 ?z_len ?z_abs ?z_int ?z_list ?z_tuple ?z_dict ?z_bool ?z_str ?z_range ?z_zip ?z_enumerate ?z_all ?z_isinstance ?z_sorted ?z_min
    (case a0 => k_is); (case l0 => k_is); (case c0 => k_is); (case k0 => k_is); (case a1 => k_is); (case l1 => k_is); (case c1 => k_is); (case k1 => k_is); (case a2 => k_is); (case l2 => k_is); (case c2 => k_is); (case k2 => k_is); (case a3 => k_is); (case l3 => k_is); (case c3 => k_is); (case k3 => k_is); (case a4 => k_is); (case l4 => k_is); (case c4 => k_is); (case k4 => k_is); (case a5 => k_is); (case l5 => k_is); (case c5 => k_is); (case k5 => k_is); (case a6 => k_is); (case l6 => k_is); (case c6 => k_is); (case k6 => k_is); (case a7 => k_is); (case l7 => k_is); (case c7 => k_is); (case k7 => k_is); (case a8 => k_is); (case l8 => k_is); (case c8 => k_is); (case k8 => k_is); (case a9 => k_is); (case l9 => k_is); (case c9 => k_is); (case k9 => k_is); (case a10 => k_is); (case l10 => k_is); (case c10 => k_is); (case k10 => k_is); (case a11 => k_is); (case l11 => k_is); (case c11 => k_is); (case k11 => k_is); (case a12 => k_is); (case l12 => k_is); (case c12 => k_is); (case k12 => k_is); (case a13 => k_is); (case l13 => k_is); (case c13 => k_is); (case k13 => k_is); (case a14 => k_is); (case l14 => k_is); (case c14 => k_is); (case k14 => k_is); (case a15 => k_is); (case l15 => k_is); (case c15 => k_is); (case k15 => k_is); (case a16 => k_is); (case l16 => k_is); (case c16 => k_is); (case k16 => k_is); (case a17 => k_is); (case l17 => k_is); (case c17 => k_is); (case k17 => k_is); (case a18 => k_is); (case l18 => k_is); (case c18 => k_is); (case k18 => k_is); (case a19 => k_is); (case l19 => k_is); (case c19 => k_is); (case k19 => k_is); (case z_len => k_is); (case z_abs => k_is); (case z_int => k_is); (case z_list => k_is); (case z_tuple => k_is); (case z_dict => k_is); (case z_bool => k_is); (case z_str => k_is); (case z_range => k_is); (case z_zip => k_is); (case z_enumerate => k_is); (case z_all => k_is); (case z_isinstance => k_is); (case z_sorted => k_is); (case z_min => k_is)

