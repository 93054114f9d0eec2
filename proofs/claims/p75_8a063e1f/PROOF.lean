import PyProof.Rows.All
import HandS.TupAny
import HandS.Style
import HandS.Conv
import Wide.All
import OpenK.AllK
import Wide.FinOn
import PyProof.EqAt
import PyProof.EqKinds
import PyProof.TupleCall
import HandS.ForMost
import HandS.IsInst
import HandS.Zip
import HandS.Evl
import HandS.NoneIn
import HandS.Flow
import HandS.TupMul
import HandS.DictComp
import HandS.Wide
import KE.KSortTupG
import HandS.Sort
import HandS.New
import PyProof.TupleOfStr
import PyProof.Draws
import PyProof.EnumMake
import PyProof.EnumFor
import HandS.Small
import HandS.ExcInit
import HandS.ExcIs
import HandS.ExcOwn
import KE.KExcInit
import KE.KExcIs
import KE.KExcMake
import HandS.WordsExc
import HandS.Star
import KE.DataMinMax
import HandS.WideBits
import KE.BitLaws
import KE.KDictZip
import KE.KTurns
import HandS.ExcValue
import HandS.MapObj
import HandS.Rev
import HandS.Deep
import HandS.TupLe
import HandS.SetFor
import HandS.More
import HandS.TupSets
import KE.KTryMore
import KE.KDictPairs
import PySem.Challenge.RW_oldornew_k75_how_long_looks_at_shifted_r
import KE.RegKTryMore
set_option Elab.async false
set_option linter.all false
set_option maxRecDepth 100000
set_option maxHeartbeats 2000000
/-! Data in the heap, told by trees: what an expression gives is told as data alone, the heap goes along. -/
namespace DL
open PySem PySem.Spec PyProof.Rows L2
open Evl (Ex)

/-- from the data Hd within the heap H to the data Hd' within H': all stays; what is new among the data was not there -/
structure Ext (Hd H Hd' H' : Hp) : Prop where
  d : Ex Hd Hd'
  h : Ex H H'
  i : Ex Hd' H'
  f : ∀ a o, Hd a = none → H a = some o → Hd' a = none
theorem Ext.refl {Hd H : Hp} (e : Ex Hd H) : Ext Hd H Hd H := ⟨.refl _, .refl _, e, fun _ _ h _ => h⟩
theorem Ext.trans {A H B G C F : Hp} (a : Ext A H B G) (b : Ext B G C F) : Ext A H C F :=
  ⟨a.d.trans b.d, a.h.trans b.h, b.i, fun x o h1 h2 => b.f x o (a.f x o h1 h2) (a.h x o h2)⟩
/-- a new thing that is not taken among the data -/
theorem Ext.mut {A H B G : Hp} (e : Ext A H B G) {p : Addr} {o : HO} (hp : H p = none) (hB : B p = none) : Ext A H B (upd G p o) :=
  ⟨e.d, e.h.mut hp, fun a u ha => by rw [upd_ne (ne_of_none ha hB)]; exact e.i a u ha, e.f⟩
/-- a new thing that is taken among the data -/
theorem Ext.take {A H B G : Hp} (e : Ext A H B G) {p : Addr} {o : HO} (hp : H p = none) (hB : B p = none) (hG : G p = some o) : Ext A H (upd B p o) G :=
  ⟨e.d.trans (Ex.new hB), e.h, fun a u ha => by
    by_cases z : a = p
    · subst z; rw [upd_same] at ha; cases ha; exact hG
    · rw [upd_ne z] at ha; exact e.i a u ha, fun a u h1 h2 => by
    by_cases z : a = p
    · subst z; rw [hp] at h2; cases h2
    · rw [upd_ne z]; exact e.f a u h1 h2⟩
theorem Ext.new {A H B G : Hp} (e : Ext A H B G) {p : Addr} {o : HO} (hp : G p = none) : Ext A H (upd B p o) (upd G p o) := by
  have hB := Evl.fresh_back e.i hp
  have hH := Evl.fresh_back e.h hp
  exact (e.mut hH hB).take hH hB upd_same

/-- a tuple at a, without a dict of its own -/
def Tp (H : Hp) (a : Addr) (xs : List V) : Prop := ∃ o : Obj, H a = some (.frz o (.tup xs)) ∧ o.dict = none
theorem Tp.mono {H H' : Hp} {a : Addr} {xs : List V} (e : Ex H H') (h : Tp H a xs) : Tp H' a xs := by
  obtain ⟨o, h1, h2⟩ := h
  exact ⟨o, e _ _ h1, h2⟩
theorem Tp.sq {K : PySem.W.Frag} {H : Hp} {a : Addr} {xs : List V} (h : Tp H a xs) : SqT K H a xs := by
  obtain ⟨o, h1, _⟩ := h
  exact .inl (.inr ⟨o, h1⟩)
theorem Tp.new {H : Hp} {a : Addr} {o : Obj} {xs : List V} (h : o.dict = none) : Tp (upd H a (.frz o (.tup xs))) a xs := ⟨o, upd_same, h⟩
theorem Tp.fn {H : Hp} {a : Addr} {xs ys : List V} (h1 : Tp H a xs) (h2 : Tp H a ys) : xs = ys := by
  obtain ⟨o, a1, _⟩ := h1
  obtain ⟨o2, a2, _⟩ := h2
  rw [a1] at a2
  cases a2
  rfl
/-- a key among the data -/
def keyD : Key → PyData
  | .inl i => .int i
  | .inr x => .str x
mutual
/-- the value v is the data d -/
inductive Dt (K : PySem.W.Frag) (H : Hp) : V → PyData → Prop
  | non : Dt K H .non .none
  | bl (b : Bool) : Dt K H (.bl b) (.bool b)
  | int (i : Int) : Dt K H (.int i) (.int i)
  | str (x : Str) : Dt K H (.str x) (.str x)
  | lst {a : Addr} {xs : List V} {ds : List PyData} : H a = some (.lst xs) → DtA K H xs ds → Dt K H (.ref a) (.list ds)
  | tup {a : Addr} {xs : List V} {ds : List PyData} : Tp H a xs → DtA K H xs ds → Dt K H (.ref a) (.tuple ds)
  | dct {a : Addr} {ks : List (Key × V)} {kvs : List (PyData × PyData)} : H a = some (.dK ks) → DtK K H ks kvs → Dt K H (.ref a) (.dict kvs)
  | dctT {a : Addr} {ks : List (List Key × V)} {kvs : List (PyData × PyData)} : H a = some (.dT ks) → DtT K H ks kvs → kvs ≠ [] → Dt K H (.ref a) (.dict kvs)
inductive DtK (K : PySem.W.Frag) (H : Hp) : List (Key × V) → List (PyData × PyData) → Prop
  | nil : DtK K H [] []
  | cons {x : Str} {v : V} {ks : List (Key × V)} {d : PyData} {kvs : List (PyData × PyData)} : Dt K H v d → DtK K H ks kvs → DtK K H ((.inr x, v) :: ks) ((.str x, d) :: kvs)
/-- the keys are rows of numbers and texts -/
inductive DtT (K : PySem.W.Frag) (H : Hp) : List (List Key × V) → List (PyData × PyData) → Prop
  | nil : DtT K H [] []
  | cons {k : List Key} {v : V} {ks : List (List Key × V)} {d : PyData} {kvs : List (PyData × PyData)} : Dt K H v d → DtT K H ks kvs → DtT K H ((k, v) :: ks) ((.tuple (k.map keyD), d) :: kvs)
inductive DtA (K : PySem.W.Frag) (H : Hp) : List V → List PyData → Prop
  | nil : DtA K H [] []
  | cons {v : V} {vs : List V} {d : PyData} {ds : List PyData} : Dt K H v d → DtA K H vs ds → DtA K H (v :: vs) (d :: ds)
end
section
variable {K : PySem.W.Frag} {H H' : Hp}
mutual
theorem Dt.mono (e : Ex H H') : ∀ {d : PyData} {v : V}, Dt K H v d → Dt K H' v d
  | _, _, .non => .non
  | _, _, .bl b => .bl b
  | _, _, .int b => .int b
  | _, _, .str b => .str b
  | _, _, .lst h1 h2 => .lst (e _ _ h1) (DtA.mono e h2)
  | _, _, .tup h1 h2 => .tup (h1.mono e) (DtA.mono e h2)
  | _, _, .dct h1 h2 => .dct (e _ _ h1) (DtK.mono e h2)
  | _, _, .dctT h1 h2 h3 => .dctT (e _ _ h1) (DtT.mono e h2) h3
theorem DtK.mono (e : Ex H H') : ∀ {kvs : List (PyData × PyData)} {ks : List (Key × V)}, DtK K H ks kvs → DtK K H' ks kvs
  | _, _, .nil => .nil
  | _, _, .cons h1 h2 => .cons (Dt.mono e h1) (DtK.mono e h2)
theorem DtT.mono (e : Ex H H') : ∀ {kvs : List (PyData × PyData)} {ks : List (List Key × V)}, DtT K H ks kvs → DtT K H' ks kvs
  | _, _, .nil => .nil
  | _, _, .cons h1 h2 => .cons (Dt.mono e h1) (DtT.mono e h2)
theorem DtA.mono (e : Ex H H') : ∀ {ds : List PyData} {vs : List V}, DtA K H vs ds → DtA K H' vs ds
  | _, _, .nil => .nil
  | _, _, .cons h1 h2 => .cons (Dt.mono e h1) (DtA.mono e h2)
end
mutual
theorem Dt.dp : ∀ {d : PyData} {v : V}, PyData.canLay0 d = true → Dt K H v d → Dp K H v d
  | .none, _, _, h => by cases h; exact .non
  | .bool b, _, _, h => by cases h; exact .bl b
  | .int b, _, _, h => by cases h; exact .int b
  | .str b, _, _, h => by cases h; exact .str b
  | .list ds, _, c, h => by
    cases h with
    | lst h1 h2 => exact .lst (SqL.of h1) (DtA.dp (by simpa [PyData.canLay0] using c) h2)
  | .tuple ds, _, c, h => by
    cases h with
    | tup h1 h2 => exact .tup h1.sq (DtA.dp (by simpa [PyData.canLay0] using c) h2)
  | .dict _, _, c, h => by simp [PyData.canLay0] at c
theorem DtA.dp : ∀ {ds : List PyData} {vs : List V}, PyData.canLayAll0 ds = true → DtA K H vs ds → DpAll K H vs ds
  | [], _, _, h => by cases h; exact .nil
  | d :: ds, _, c, h => by
    simp only [PyData.canLayAll0, Bool.and_eq_true] at c
    cases h with
    | cons h1 h2 => exact .cons (Dt.dp c.1 h1) (DtA.dp c.2 h2)
end
theorem DtA.length : ∀ {vs : List V} {ds : List PyData}, DtA K H vs ds → vs.length = ds.length
  | [], _, h => by cases h; rfl
  | v :: vs, _, h => by
    cases h with
    | cons h1 h2 => simp [DtA.length h2]
theorem DtA.append : ∀ {vs ws : List V} {ds es : List PyData}, DtA K H vs ds → DtA K H ws es → DtA K H (vs ++ ws) (ds ++ es)
  | [], _, _, _, h, g => by cases h; exact g
  | v :: vs, _, _, _, h, g => by
    cases h with
    | cons h1 h2 => exact .cons h1 (DtA.append h2 g)
theorem DtA.get : ∀ {vs : List V} {ds : List PyData} {i : Nat} {v : V}, DtA K H vs ds → vs[i]? = some v → ∃ d, ds[i]? = some d ∧ Dt K H v d
  | [], _, _, _, h, e => by simp at e
  | v :: vs, _, 0, _, h, e => by
    cases h with
    | cons h1 h2 => simp at e; subst e; exact ⟨_, rfl, h1⟩
  | v :: vs, _, i + 1, _, h, e => by
    cases h with
    | cons h1 h2 =>
      obtain ⟨d, a, b⟩ := DtA.get (i := i) h2 (by simpa using e)
      exact ⟨d, by simpa using a, b⟩
theorem DtA.got {vs : List V} {ds : List PyData} {i : Nat} {d : PyData} (h : DtA K H vs ds) (e : ds[i]? = some d) : ∃ v, vs[i]? = some v ∧ Dt K H v d := by
  have hl := h.length
  have hi : i < vs.length := by
    have := (List.getElem?_eq_some_iff.mp e).1
    omega
  obtain ⟨d', a, b⟩ := h.get (i := i) (v := vs[i]) (by simp [hi])
  rw [e] at a
  cases a
  exact ⟨_, by simp [hi], b⟩
theorem DtA.take : ∀ {vs : List V} {ds : List PyData} (n : Nat), DtA K H vs ds → DtA K H (vs.take n) (ds.take n)
  | _, _, 0, _ => by simp; exact .nil
  | [], _, n + 1, h => by cases h; simp; exact .nil
  | v :: vs, _, n + 1, h => by
    cases h with
    | cons h1 h2 => exact .cons h1 (DtA.take n h2)
theorem DtA.drop : ∀ {vs : List V} {ds : List PyData} (n : Nat), DtA K H vs ds → DtA K H (vs.drop n) (ds.drop n)
  | _, _, 0, h => by simpa using h
  | [], _, n + 1, h => by cases h; simp; exact .nil
  | v :: vs, _, n + 1, h => by
    cases h with
    | cons h1 h2 => exact DtA.drop n h2
theorem DtA.rev {vs : List V} {ds : List PyData} (h : DtA K H vs ds) : DtA K H vs.reverse ds.reverse := by
  induction vs generalizing ds with
  | nil => cases h; exact .nil
  | cons v vs ih =>
    cases h with
    | cons h1 h2 =>
      rw [List.reverse_cons, List.reverse_cons]
      exact (ih h2).append (.cons h1 .nil)
theorem DtA.strs : ∀ (xs : List Str), DtA K H (xs.map V.str) (xs.map PyData.str)
  | [] => .nil
  | x :: xs => .cons (.str x) (DtA.strs xs)
theorem DtA.ints : ∀ (xs : List Int), DtA K H (xs.map V.int) (xs.map PyData.int)
  | [] => .nil
  | x :: xs => .cons (.int x) (DtA.ints xs)
theorem DtA.bls : ∀ (xs : List Bool), DtA K H (xs.map V.bl) (xs.map PyData.bool)
  | [] => .nil
  | x :: xs => .cons (.bl x) (DtA.bls xs)
theorem DtA.ofStrs : ∀ {xs : List Str} {vs : List V}, DtA K H vs (xs.map PyData.str) → vs = xs.map V.str
  | [], _, h => by cases h; rfl
  | x :: xs, _, h => by
    cases h with
    | cons h1 h2 => cases h1; rw [DtA.ofStrs h2]; rfl
theorem DtA.ofInts : ∀ {xs : List Int} {vs : List V}, DtA K H vs (xs.map PyData.int) → vs = xs.map V.int
  | [], _, h => by cases h; rfl
  | x :: xs, _, h => by
    cases h with
    | cons h1 h2 => cases h1; rw [DtA.ofInts h2]; rfl
theorem DtA.ofBls : ∀ {xs : List Bool} {vs : List V}, DtA K H vs (xs.map PyData.bool) → vs = xs.map V.bl
  | [], _, h => by cases h; rfl
  | x :: xs, _, h => by
    cases h with
    | cons h1 h2 => cases h1; rw [DtA.ofBls h2]; rfl
end
/-! ### tuples made: their objects are known -/
section
variable {X : Cx}
def tTupX : TA → TE := fun t σ H Q => t σ H fun xs H1 => xs.length ≤ sizeLine ∧ ∀ (p : Addr) (o : Obj), H1 p = none → o.dict = none → Q (.ref p) (upd H1 p (.frz o (.tup xs)))
theorem laid_tup {pins : List (Addr × Obj)} {σ : L2.St} {H : Hp} {s : Shared} {g : Heap} {its : List Value} {xs : List V} {Q : VK} {tk : Nat} (I : Inv X pins σ H s) (kp : ∀ b o, s.heap.get? b = some o → g.get? b = some o) (rv : Vals xs its) (hz : xs.length ≤ sizeLine) (q : ∀ (p : Addr) (o : Obj), H p = none → o.dict = none → Q (.ref p) (upd H p (.frz o (.tup xs)))) (hle : s.heap.objs.size ≤ g.objs.size) :
    EP X pins σ Q (.ref g.objs.size) { s with heap := g.push { cls := .type "tuple", data := .seq its.toArray }, toks := tk } := by
  have hf : H g.objs.size = none := I.hok.fresh hle
  exact ⟨.ref g.objs.size, _, I.laid (o := .frz { cls := .type "tuple", data := .seq its.toArray } (.tup xs)) (fun b o e => Heap.get?_push_of_some _ (kp b o e)) hle ⟨Heap.get?_push_size _ rfl, hz, its, rv, PyProof.Rows.IsTup.new _ _⟩, rfl, q _ _ hf rfl⟩
theorem pe_tupX {es : List PySem.Expr} {t : TA} {pos : Pos} {x1 : Nat} (h : PA X es t) : PE X (.Tuple es x1 pos) (tTupX t) := by
  refine ⟨fun pins s σ H Q I hq => ?_⟩
  refine wpAny_Tuple_spliced (thn (h.run pos pins s σ H _ I hq) fun us s1 ⟨xs, H1, I1, r, z, q⟩ => ⟨by rw [← r.length]; exact z, ?_⟩)
  exact laid_tup I1 (fun _ _ e => e) r z q (Nat.le_refl _)
def rTupX (K : PySem.W.Frag) : List V → Hp → VK → Prop := fun xs H Q => ∃ p ys, xs = [.ref p] ∧ ((SqL K H p ys ∧ ∀ (l : Addr) (o : Obj), H l = none → o.dict = none → Q (.ref l) (upd H l (.frz o (.tup ys)))) ∨ (SqT K H p ys ∧ Q (.ref p) H))
theorem tupX (K : PySem.W.Frag) (hK : X.K = K := by rfl) : CallR X (.type "tuple") (rTupX K) := by
  subst hK
  intro pins s σ H xs us Q I r h
  obtain ⟨p, ys, rfl, h⟩ := h
  obtain ⟨u, rfl, rx⟩ := vals1 r
  cases rx
  rcases h with ⟨hq, q⟩ | ⟨hq, q⟩
  · obtain ⟨its, r', pl, hz⟩ := I.list hq
    refine call_tuple_list pl.isList (fun g kp => ?_) (by rw [List.size_toArray, ← r'.length]; exact hz)
    exact laid_tup (s := { s with heap := g }) (g := g) (I.kept (t' := s.toks) kp) (fun _ _ e => e) r' hz q (Nat.le_refl _)
  · obtain ⟨its, r', pl, hz⟩ := I.tuple hq
    exact call_tuple_same pl ⟨.ref p, H, I, rfl, q⟩
def rCatX (K : PySem.W.Frag) : R2 := fun x y H Q => ∃ a b xs ys, x = V.ref a ∧ y = V.ref b ∧ SqT K H a xs ∧ SqT K H b ys ∧ xs.length + ys.length ≤ sizeLine ∧ (xs = [] → Q (V.ref b) H) ∧ (xs ≠ [] → ys = [] → Q (V.ref a) H) ∧
  (xs ≠ [] → ys ≠ [] → ∀ (p : Addr) (o : Obj), H p = none → o.dict = none → Q (V.ref p) (upd H p (.frz o (.tup (xs ++ ys)))))
theorem catX (K : PySem.W.Frag) (hK : X.K = K := by rfl) : OpR X (binaryOp .Add) (rCatX K) := by
  subst hK
  intro pins s σ H x y v u Q I rx ry h
  obtain ⟨a, b, xs, ys, rfl, rfl, ha, hb, hz, q0, q1, q2⟩ := h
  by_cases e1 : xs = []
  · exact op_catA pins s σ H _ _ v u Q I rx ry ⟨a, b, xs, ys, rfl, rfl, ha, hb, hz, q0, q1, fun n => absurd e1 n⟩
  · by_cases e2 : ys = []
    · exact op_catA pins s σ H _ _ v u Q I rx ry ⟨a, b, xs, ys, rfl, rfl, ha, hb, hz, q0, q1, fun _ n => absurd e2 n⟩
    · cases rx
      cases ry
      obtain ⟨its, r1, p1, _⟩ := I.tuple ha
      obtain ⟨its2, r2, p2, _⟩ := I.tuple hb
      refine HT.cat_tup p1 p2 (fun z => e1 (by subst z; cases r1; rfl)) (fun z => absurd (by subst z; cases r2; rfl) e2) (fun _ => ?_) (by rw [← r1.length, ← r2.length]; exact hz)
      exact laid_tup I (fun _ _ e => e) (r1.append r2) (by rw [List.length_append]; exact hz) (q2 e1 e2) (Nat.le_refl _)
def rSlX (K : PySem.W.Frag) : V → Option Int → Option Int → Hp → VK → Prop := fun x lo hi H Q => ∃ a xs, x = V.ref a ∧ SqT K H a xs ∧ (HT.sIx xs.length 0 lo = 0 ∧ HT.sIx xs.length xs.length hi = xs.length → Q (V.ref a) H) ∧
  (¬(HT.sIx xs.length 0 lo = 0 ∧ HT.sIx xs.length xs.length hi = xs.length) → ∀ (p : Addr) (o : Obj), H p = none → o.dict = none → Q (V.ref p) (upd H p (.frz o (.tup (cutV xs lo hi)))))
theorem slX (K : PySem.W.Frag) (hK : X.K = K := by rfl) : SlR X (rSlX K) := by
  subst hK
  intro pins s σ H x v vl vu lo hi sl Q I rx hs pl pu h
  obtain ⟨a, xs, rfl, hx, q1, q2⟩ := h
  by_cases w : HT.sIx xs.length 0 lo = 0 ∧ HT.sIx xs.length xs.length hi = xs.length
  · exact sl_tupA pins s σ H _ v vl vu lo hi sl Q I rx hs pl pu ⟨a, xs, rfl, hx, q1, fun n => absurd w n⟩
  · cases rx
    obtain ⟨its, r, ht, hz⟩ := I.tuple hx
    have hlen : its.toArray.size = xs.length := by rw [List.size_toArray, r.length]
    refine ⟨"tuple", "tuple.__getitem__", F.slot_tuple_getitem.lookup, ht.typeIs, ?_⟩
    refine HT.getItem_tuple_cut ht hs pl pu (by rw [hlen]; exact w) ?_ (by rw [hlen]; exact hz)
    rw [hlen]
    refine laid_tup I (fun _ _ e => e) ?_ ?_ (q2 w) (Nat.le_refl _)
    · exact (r.drop _).take _
    · unfold cutV
      rw [List.length_take, List.length_drop]
      omega
end
end DL

namespace DL
open PySem PySem.Spec PyProof.Rows L2
open Evl (Ex)

/-- what is known of a slot: nothing, its value, its data, a list of the def's own with its data -/
inductive G where
  | any | val (v : V) | dat (d : PyData) | own (ds : List PyData) | ownD (b : Bool) (kvs : List (PyData × PyData)) | lck (kvs : List (PyData × PyData))
/-- a dict's contents -/
def DtD (K : PySem.W.Frag) (Hd : Hp) (o : HO) (kvs : List (PyData × PyData)) : Prop := (∃ ks, o = .dK ks ∧ DtK K Hd ks kvs) ∨ ∃ ks, o = .dT ks ∧ DtT K Hd ks kvs
theorem DtD.mono {K : PySem.W.Frag} {H H' : Hp} {o : HO} {kvs : List (PyData × PyData)} (h : DtD K H o kvs) (e : Ex H H') : DtD K H' o kvs := h.elim (fun ⟨ks, a, b⟩ => .inl ⟨ks, a, b.mono e⟩) fun ⟨ks, a, b⟩ => .inr ⟨ks, a, b.mono e⟩
theorem DtD.nl {K : PySem.W.Frag} {H : Hp} {o : HO} {kvs : List (PyData × PyData)} (h : DtD K H o kvs) {xs : List V} : o ≠ .lst xs := fun z => by
  subst z
  rcases h with ⟨_, q, _⟩ | ⟨_, q, _⟩ <;> cases q
/-- a dict whose kind of keys is known: rows of texts and numbers, or texts and numbers by themselves -/
def DtDb (K : PySem.W.Frag) : Bool → Hp → HO → List (PyData × PyData) → Prop
  | false, Hd, o, kvs => ∃ ks, o = .dK ks ∧ DtK K Hd ks kvs
  | true, Hd, o, kvs => ∃ ks, o = .dT ks ∧ DtT K Hd ks kvs
theorem DtDb.d {K : PySem.W.Frag} {b : Bool} {Hd : Hp} {o : HO} {kvs : List (PyData × PyData)} (h : DtDb K b Hd o kvs) : DtD K Hd o kvs := by
  cases b with
  | false => exact .inl h
  | true => exact .inr h
theorem DtDb.mono {K : PySem.W.Frag} {b : Bool} {H H' : Hp} {o : HO} {kvs : List (PyData × PyData)} (h : DtDb K b H o kvs) (e : Ex H H') : DtDb K b H' o kvs := by
  cases b with
  | false => exact let ⟨ks, a, q⟩ := h; ⟨ks, a, q.mono e⟩
  | true => exact let ⟨ks, a, q⟩ := h; ⟨ks, a, q.mono e⟩
theorem DtDb.nl {K : PySem.W.Frag} {b : Bool} {H : Hp} {o : HO} {kvs : List (PyData × PyData)} (h : DtDb K b H o kvs) {xs : List V} : o ≠ .lst xs := h.d.nl
def GOk (K : PySem.W.Frag) (H0 : Hp) (σ : L2.St) (Hd H : Hp) (i : Nat) : G → Prop
  | .any => True
  | .val v => σ[i]? = some (some v)
  | .dat d => ∃ v, σ[i]? = some (some v) ∧ Dt K Hd v d
  | .own ds => ∃ a vs, σ[i]? = some (some (.ref a)) ∧ H0 a = none ∧ Hd a = none ∧ H a = some (.lst vs) ∧ DtA K Hd vs ds
  | .lck kvs => ∃ a o u, σ[i]? = some (some (.ref a)) ∧ Hd a = some (.frz o u) ∧ DtD K Hd u kvs
  | .ownD b kvs => ∃ a o, σ[i]? = some (some (.ref a)) ∧ H0 a = none ∧ Hd a = none ∧ H a = some o ∧ DtDb K b Hd o kvs
structure En (K : PySem.W.Frag) (Hd0 H0 : Hp) (Γ : List G) (σ : L2.St) (Hd H : Hp) : Prop where
  x : Ext Hd0 H0 Hd H
  l : Γ.length = σ.length
  g : ∀ i g, Γ[i]? = some g → GOk K H0 σ Hd H i g
  o : ∀ (i j : Nat) (ds es : List PyData) (v : Option (Option V)), i ≠ j → Γ[i]? = some (.own ds) → Γ[j]? = some (.own es) → σ[i]? = v → σ[j]? = v → False
section
variable {K : PySem.W.Frag} {Hd0 H0 Hd H Hd' H' : Hp} {Γ Δ : List G} {σ : L2.St}
theorem En.ext (e : En K Hd0 H0 Γ σ Hd H) (x : Ext Hd H Hd' H') : En K Hd0 H0 Γ σ Hd' H' := by
  refine ⟨e.x.trans x, e.l, fun i g hg => ?_, e.o⟩
  have q := e.g i g hg
  cases g with
  | any => trivial
  | val v => exact q
  | dat d =>
    obtain ⟨v, h1, h2⟩ := q
    exact ⟨v, h1, h2.mono x.d⟩
  | own ds =>
    obtain ⟨a, vs, h1, h0, h2, h3, h4⟩ := q
    exact ⟨a, vs, h1, h0, x.f _ _ h2 h3, x.h _ _ h3, h4.mono x.d⟩
  | lck kvs =>
    obtain ⟨a, o, u, h1, h2, h3⟩ := q
    exact ⟨a, o, u, h1, x.d _ _ h2, h3.mono x.d⟩
  | ownD _ kvs =>
    obtain ⟨a, o, h1, h0, h2, h3, h4⟩ := q
    exact ⟨a, o, h1, h0, x.f _ _ h2 h3, x.h _ _ h3, h4.mono x.d⟩
theorem En.dat (e : En K Hd0 H0 Γ σ Hd H) {i : Nat} {d : PyData} (h : Γ[i]? = some (.dat d)) : ∃ v, σ[i]? = some (some v) ∧ Dt K Hd v d := e.g i _ h
theorem En.own (e : En K Hd0 H0 Γ σ Hd H) {i : Nat} {ds : List PyData} (h : Γ[i]? = some (.own ds)) : ∃ a vs, σ[i]? = some (some (.ref a)) ∧ H0 a = none ∧ Hd a = none ∧ H a = some (.lst vs) ∧ DtA K Hd vs ds := e.g i _ h
theorem get_set_eq {α : Type} {l : List α} {i : Nat} {a b : α} (h : (l.set i a)[i]? = some b) : b = a := by
  rw [List.getElem?_set_self'] at h
  cases e : l[i]? with
  | none => rw [e] at h; cases h
  | some c => rw [e] at h; exact (Option.some.inj h).symm
/-- a slot is given a value whose data is known -/
theorem En.set (e : En K Hd0 H0 Γ σ Hd H) {i : Nat} {v : V} {d : PyData} (hd : Dt K Hd v d) : En K Hd0 H0 (Γ.set i (.dat d)) (σ.set i (some v)) Hd H := by
  refine ⟨e.x, by simp [e.l], fun j g hg => ?_, fun j k ds es w hjk h1 h2 => ?_⟩
  · by_cases z : i = j
    · subst z
      have q := get_set_eq hg
      subst q
      have hi : i < Γ.length := by
        have := (List.getElem?_eq_some_iff.mp hg).1
        simpa using this
      exact ⟨v, by simp [e.l ▸ hi], hd⟩
    · rw [List.getElem?_set_ne z] at hg
      have q := e.g j g hg
      cases g with
      | any => trivial
      | val v => show (σ.set i _)[j]? = _; rw [List.getElem?_set_ne z]; exact q
      | dat d => obtain ⟨v, h1, h2⟩ := q; exact ⟨v, by rw [List.getElem?_set_ne z]; exact h1, h2⟩
      | own ds => obtain ⟨a, vs, h1, h2⟩ := q; exact ⟨a, vs, by rw [List.getElem?_set_ne z]; exact h1, h2⟩
      | lck ds => obtain ⟨a, o, u, h1, h2⟩ := q; exact ⟨a, o, u, by rw [List.getElem?_set_ne z]; exact h1, h2⟩
      | ownD _ ds => obtain ⟨a, vs, h1, h2⟩ := q; exact ⟨a, vs, by rw [List.getElem?_set_ne z]; exact h1, h2⟩
  · have nj : i ≠ j := fun z => by subst z; exact nomatch get_set_eq h1
    have nk : i ≠ k := fun z => by subst z; exact nomatch get_set_eq h2
    rw [List.getElem?_set_ne nj] at h1 ⊢
    rw [List.getElem?_set_ne nk] at h2 ⊢
    exact e.o j k ds es w hjk h1 h2
theorem En.forget (e : En K Hd0 H0 Γ σ Hd H) {i : Nat} {v : Option V} : En K Hd0 H0 (Γ.set i .any) (σ.set i v) Hd H := by
  refine ⟨e.x, by simp [e.l], fun j g hg => ?_, fun j k ds es w hjk h1 h2 => ?_⟩
  · by_cases z : i = j
    · subst z
      have q := get_set_eq hg
      subst q
      trivial
    · rw [List.getElem?_set_ne z] at hg
      have q := e.g j g hg
      cases g with
      | any => trivial
      | val v => show (σ.set i _)[j]? = _; rw [List.getElem?_set_ne z]; exact q
      | dat d => obtain ⟨v, h1, h2⟩ := q; exact ⟨v, by rw [List.getElem?_set_ne z]; exact h1, h2⟩
      | own ds => obtain ⟨a, vs, h1, h2⟩ := q; exact ⟨a, vs, by rw [List.getElem?_set_ne z]; exact h1, h2⟩
      | lck ds => obtain ⟨a, o, u, h1, h2⟩ := q; exact ⟨a, o, u, by rw [List.getElem?_set_ne z]; exact h1, h2⟩
      | ownD _ ds => obtain ⟨a, vs, h1, h2⟩ := q; exact ⟨a, vs, by rw [List.getElem?_set_ne z]; exact h1, h2⟩
  · have nj : i ≠ j := fun z => by subst z; exact nomatch get_set_eq h1
    have nk : i ≠ k := fun z => by subst z; exact nomatch get_set_eq h2
    rw [List.getElem?_set_ne nj] at h1 ⊢
    rw [List.getElem?_set_ne nk] at h2 ⊢
    exact e.o j k ds es w hjk h1 h2
/-- less is known -/
theorem En.weak (e : En K Hd0 H0 Γ σ Hd H) {i : Nat} : En K Hd0 H0 (Γ.set i .any) σ Hd H := by
  refine ⟨e.x, by simp [e.l], fun j g hg => ?_, fun j k ds es w hjk h1 h2 => ?_⟩
  · by_cases z : i = j
    · subst z
      have q := get_set_eq hg
      subst q
      trivial
    · rw [List.getElem?_set_ne z] at hg
      exact e.g j g hg
  · have nj : i ≠ j := fun z => by subst z; exact nomatch get_set_eq h1
    have nk : i ≠ k := fun z => by subst z; exact nomatch get_set_eq h2
    rw [List.getElem?_set_ne nj] at h1
    rw [List.getElem?_set_ne nk] at h2
    exact e.o j k ds es w hjk h1 h2
end

section
variable (K : PySem.W.Frag)
/-- te gives the data d -/
def ED (te : TE) (Γ : List G) (d : PyData) : Prop := ∀ Hd0 H0 σ Hd H, En K Hd0 H0 Γ σ Hd H → ∀ Q : VK, (∀ v Hd' H', Ext Hd H Hd' H' → Dt K Hd' v d → Q v H') → te σ H Q
/-- te gives a list that can be read, of the data ds -/
def ER (te : TE) (Γ : List G) (ds : List PyData) : Prop := ∀ Hd0 H0 σ Hd H, En K Hd0 H0 Γ σ Hd H → ∀ Q : VK, (∀ a vs Hd' H', Ext Hd H Hd' H' → H' a = some (.lst vs) → DtA K Hd' vs ds → Q (.ref a) H') → te σ H Q
/-- te gives a new list of the data ds -/
def EF (te : TE) (Γ : List G) (ds : List PyData) : Prop := ∀ Hd0 H0 σ Hd H, En K Hd0 H0 Γ σ Hd H → ∀ Q : VK, (∀ a vs Hd' H', Ext Hd H Hd' H' → H a = none → Hd' a = none → H' a = some (.lst vs) → DtA K Hd' vs ds → Q (.ref a) H') → te σ H Q
/-- a test -/
def ET (tt : TT) (Γ : List G) (b : Bool) : Prop := ∀ Hd0 H0 σ Hd H, En K Hd0 H0 Γ σ Hd H → ∀ Q : Bool → Hp → Prop, (∀ Hd' H', Ext Hd H Hd' H' → Q b H') → tt σ H Q
/-- arguments -/
def EA (ta : TA) (Γ : List G) (ds : List PyData) : Prop := ∀ Hd0 H0 σ Hd H, En K Hd0 H0 Γ σ Hd H → ∀ Q : List V → Hp → Prop, (∀ vs Hd' H', Ext Hd H Hd' H' → DtA K Hd' vs ds → Q vs H') → ta σ H Q
/-- a part of a slice -/
def EO (to : TO) (Γ : List G) (o : Option Int) : Prop := ∀ Hd0 H0 σ Hd H, En K Hd0 H0 Γ σ Hd H → ∀ Q : Option Int → Hp → Prop, (∀ Hd' H', Ext Hd H Hd' H' → Q o H') → to σ H Q
/-- an operation on data -/
def RD (r : R2) (x y z : PyData) : Prop := ∀ Hd H v w, Ex Hd H → Dt K Hd v x → Dt K Hd w y → ∀ Q : VK, (∀ u Hd' H', Ext Hd H Hd' H' → Dt K Hd' u z → Q u H') → r v w H Q
def RF (r : R2) (x y : PyData) (zs : List PyData) : Prop := ∀ Hd H v w, Ex Hd H → Dt K Hd v x → Dt K Hd w y → ∀ Q : VK, (∀ a vs Hd' H', Ext Hd H Hd' H' → H a = none → Hd' a = none → H' a = some (.lst vs) → DtA K Hd' vs zs → Q (.ref a) H') → r v w H Q
def CD (r : List V → Hp → VK → Prop) (xs : List PyData) (z : PyData) : Prop := ∀ Hd H vs, Ex Hd H → DtA K Hd vs xs → ∀ Q : VK, (∀ u Hd' H', Ext Hd H Hd' H' → Dt K Hd' u z → Q u H') → r vs H Q
def CF (r : List V → Hp → VK → Prop) (xs : List PyData) (zs : List PyData) : Prop := ∀ Hd H vs, Ex Hd H → DtA K Hd vs xs → ∀ Q : VK, (∀ a ws Hd' H', Ext Hd H Hd' H' → H a = none → Hd' a = none → H' a = some (.lst ws) → DtA K Hd' ws zs → Q (.ref a) H') → r vs H Q
end

section
variable {K : PySem.W.Frag} {Γ Δ : List G} {ta tb tc te tl : TE} {tt tu : TT} {r : R2} {d e x y z : PyData} {ds es xs ys : List PyData} {b c : Bool}
theorem ed_var {i : Nat} (h : Γ[i]? = some (.dat d)) : ED K (tVar i) Γ d := fun _ _ σ Hd H e Q q => by
  obtain ⟨v, h1, h2⟩ := e.dat h
  exact ⟨v, h1, q v Hd H (.refl e.x.i) h2⟩
theorem er_own {i : Nat} (h : Γ[i]? = some (.own ds)) : ER K (tVar i) Γ ds := fun _ _ σ Hd H e Q q => by
  obtain ⟨a, vs, h1, h0, h2, h3, h4⟩ := e.own h
  exact ⟨_, h1, q a vs Hd H (.refl e.x.i) h3 h4⟩
theorem ed_int {i : Int} : ED K (tC (.int i)) Γ (.int i) := fun _ _ σ Hd H e Q q => q _ Hd H (.refl e.x.i) (.int i)
theorem ed_str {i : Str} : ED K (tC (.str i)) Γ (.str i) := fun _ _ σ Hd H e Q q => q _ Hd H (.refl e.x.i) (.str i)
theorem ed_bl {i : Bool} : ED K (tC (.bl i)) Γ (.bool i) := fun _ _ σ Hd H e Q q => q _ Hd H (.refl e.x.i) (.bl i)
theorem ed_non : ED K (tC .non) Γ .none := fun _ _ σ Hd H e Q q => q _ Hd H (.refl e.x.i) .non
/-- a new list is taken among the data -/
theorem EF.dat (h : EF K te Γ ds) : ED K te Γ (.list ds) := fun _ _ σ Hd H e Q q => h _ _ σ Hd H e Q fun a vs Hd' H' x h1 h2 h3 h4 =>
  q _ (upd Hd' a (.lst vs)) H' (x.take h1 h2 h3) (.lst upd_same (h4.mono (Ex.new h2)))
theorem EF.rd (h : EF K te Γ ds) : ER K te Γ ds := fun _ _ σ Hd H e Q q => h _ _ σ Hd H e Q fun a vs Hd' H' x h1 h2 h3 h4 => q a vs Hd' H' x h3 h4
theorem ED.rd (h : ED K te Γ (.list ds)) : ER K te Γ ds := fun _ _ σ Hd H e Q q => h _ _ σ Hd H e Q fun v Hd' H' x h1 => by
  cases h1 with
  | lst h2 h3 => exact q _ _ Hd' H' x (x.i _ _ h2) h3
theorem ED.is (h : ED K te Γ d) (q : d = e) : ED K te Γ e := q ▸ h
theorem ER.is (h : ER K te Γ ds) (q : ds = es) : ER K te Γ es := q ▸ h
theorem EF.is (h : EF K te Γ ds) (q : ds = es) : EF K te Γ es := q ▸ h
theorem ET.is (h : ET K tt Γ b) (q : b = c) : ET K tt Γ c := q ▸ h
theorem ea_nil : EA K tNil Γ [] := fun _ _ σ Hd H e Q q => q _ Hd H (.refl e.x.i) .nil
theorem ea_cons {tr : TA} (h : ED K ta Γ x) (hr : EA K tr Γ xs) : EA K (tCons ta tr) Γ (x :: xs) := fun _ _ σ Hd H e Q q =>
  h _ _ σ Hd H e _ fun v Hd1 H1 x1 d1 => hr _ _ σ Hd1 H1 (e.ext x1) _ fun vs Hd2 H2 x2 d2 => q _ Hd2 H2 (x1.trans x2) (.cons (d1.mono x2.d) d2)
theorem ed_op (h1 : ED K ta Γ x) (h2 : ED K tb Γ y) (hr : RD K r x y z) : ED K (tOp r ta tb) Γ z := fun _ _ σ Hd H e Q q =>
  h1 _ _ σ Hd H e _ fun v Hd1 H1 x1 d1 => h2 _ _ σ Hd1 H1 (e.ext x1) _ fun w Hd2 H2 x2 d2 => hr Hd2 H2 v w x2.i (d1.mono x2.d) d2 Q fun u Hd3 H3 x3 d3 => q u Hd3 H3 (x1.trans (x2.trans x3)) d3
theorem ef_op (h1 : ED K ta Γ x) (h2 : ED K tb Γ y) (hr : RF K r x y ds) : EF K (tOp r ta tb) Γ ds := fun _ _ σ Hd H e Q q =>
  h1 _ _ σ Hd H e _ fun v Hd1 H1 x1 d1 => h2 _ _ σ Hd1 H1 (e.ext x1) _ fun w Hd2 H2 x2 d2 => hr Hd2 H2 v w x2.i (d1.mono x2.d) d2 Q fun a vs Hd3 H3 x3 n1 n2 n3 d3 =>
    q a vs Hd3 H3 (x1.trans (x2.trans x3)) (Evl.fresh_back (x1.trans x2).h n1) n2 n3 d3
theorem ed_cb {ta : TA} {r : List V → Hp → VK → Prop} (h : EA K ta Γ xs) (hr : CD K r xs z) : ED K (tCB r ta) Γ z := fun _ _ σ Hd H e Q q =>
  h _ _ σ Hd H e _ fun vs Hd1 H1 x1 d1 => hr Hd1 H1 vs x1.i d1 Q fun u Hd2 H2 x2 d2 => q u Hd2 H2 (x1.trans x2) d2
theorem ef_cb {ta : TA} {r : List V → Hp → VK → Prop} (h : EA K ta Γ xs) (hr : CF K r xs ds) : EF K (tCB r ta) Γ ds := fun _ _ σ Hd H e Q q =>
  h _ _ σ Hd H e _ fun vs Hd1 H1 x1 d1 => hr Hd1 H1 vs x1.i d1 Q fun a ws Hd2 H2 x2 n1 n2 n3 d2 => q a ws Hd2 H2 (x1.trans x2) (Evl.fresh_back x1.h n1) n2 n3 d2
theorem fits_of {n : Nat} (h : n ≤ 100000) : n ≤ sizeLine := Nat.le_trans h (by decide)
theorem ed_tup {ta : TA} (h : EA K ta Γ xs) (hl : xs.length ≤ 100000) : ED K (tTupX ta) Γ (.tuple xs) := fun _ _ σ Hd H e Q q =>
  h _ _ σ Hd H e _ fun vs Hd1 H1 x1 d1 => ⟨fits_of (d1.length ▸ hl), fun p o hp ho => q _ (upd Hd1 p (.frz o (.tup vs))) _ (x1.new hp) (.tup (Tp.new ho) (d1.mono (Ex.new (Evl.fresh_back x1.i hp))))⟩
theorem ef_lst {ta : TA} (h : EA K ta Γ xs) (hl : xs.length ≤ 100000) : EF K (tLst ta) Γ xs := fun _ _ σ Hd H e Q q =>
  h _ _ σ Hd H e _ fun vs Hd1 H1 x1 d1 => ⟨fits_of (d1.length ▸ hl), fun p hp => q p vs Hd1 _ (x1.mut (Evl.fresh_back x1.h hp) (Evl.fresh_back x1.i hp)) (Evl.fresh_back x1.h hp) (Evl.fresh_back x1.i hp) upd_same d1⟩

/-! ### tests -/
theorem et_val (h : ED K te Γ (.bool b)) : ET K (tB te) Γ b := fun _ _ σ Hd H e Q q => h _ _ σ Hd H e _ fun v Hd1 H1 x1 d1 => by
  cases d1
  exact ⟨b, rfl, q Hd1 H1 x1⟩
theorem et_test (h : ED K te Γ (.bool b)) : ET K (tTest te) Γ b := fun _ _ σ Hd H e Q q => h _ _ σ Hd H e _ fun v Hd1 H1 x1 d1 => by
  cases d1
  exact ⟨b, rfl, q Hd1 H1 x1⟩
theorem et_not (h : ET K tt Γ b) : ET K (tNot tt) Γ (!b) := fun _ _ σ Hd H e Q q => h _ _ σ Hd H e _ fun Hd1 H1 x1 => q Hd1 H1 x1
theorem et_and (h1 : ET K tt Γ b) (h2 : b = true → ET K tu Γ c) : ET K (tAnd tt tu) Γ (b && c) := fun _ _ σ Hd H e Q q => h1 _ _ σ Hd H e _ fun Hd1 H1 x1 => by
  cases b with
  | true => exact iteT (h2 rfl _ _ σ Hd1 H1 (e.ext x1) _ fun Hd2 H2 x2 => q Hd2 H2 (x1.trans x2))
  | false => exact iteF (q Hd1 H1 x1)
theorem et_or (h1 : ET K tt Γ b) (h2 : b = false → ET K tu Γ c) : ET K (tOr tt tu) Γ (b || c) := fun _ _ σ Hd H e Q q => h1 _ _ σ Hd H e _ fun Hd1 H1 x1 => by
  cases b with
  | true => exact iteT (q Hd1 H1 x1)
  | false => exact iteF (h2 rfl _ _ σ Hd1 H1 (e.ext x1) _ fun Hd2 H2 x2 => q Hd2 H2 (x1.trans x2))
theorem ed_and (h1 : ED K ta Γ (.bool b)) (h2 : b = true → ED K tb Γ (.bool c)) : ED K (tAndV ta tb) Γ (.bool (b && c)) := fun _ _ σ Hd H e Q q => h1 _ _ σ Hd H e _ fun v Hd1 H1 x1 d1 => by
  cases d1
  refine ⟨b, rfl, ?_⟩
  cases b with
  | true => exact iteT (h2 rfl _ _ σ Hd1 H1 (e.ext x1) _ fun w Hd2 H2 x2 d2 => q w Hd2 H2 (x1.trans x2) d2)
  | false => exact iteF (q _ Hd1 H1 x1 (.bl false))
theorem ed_or (h1 : ED K ta Γ (.bool b)) (h2 : b = false → ED K tb Γ (.bool c)) : ED K (tOrV ta tb) Γ (.bool (b || c)) := fun _ _ σ Hd H e Q q => h1 _ _ σ Hd H e _ fun v Hd1 H1 x1 d1 => by
  cases d1
  refine ⟨b, rfl, ?_⟩
  cases b with
  | true => exact iteT (q _ Hd1 H1 x1 (.bl true))
  | false => exact iteF (h2 rfl _ _ σ Hd1 H1 (e.ext x1) _ fun w Hd2 H2 x2 d2 => q w Hd2 H2 (x1.trans x2) d2)
theorem ed_not (h1 : ED K ta Γ (.bool b)) : ED K (tNotV ta) Γ (.bool (!b)) := fun _ _ σ Hd H e Q q => h1 _ _ σ Hd H e _ fun v Hd1 H1 x1 d1 => by
  cases d1
  exact ⟨b, rfl, q _ Hd1 H1 x1 (.bl _)⟩
theorem ed_if {d : PyData} (h : ET K tt Γ b) (h1 : b = true → ED K ta Γ d) (h2 : b = false → ED K tb Γ d) : ED K (tIf tt ta tb) Γ d := fun _ _ σ Hd H e Q q => h _ _ σ Hd H e _ fun Hd1 H1 x1 => by
  cases b with
  | true => exact iteT (h1 rfl _ _ σ Hd1 H1 (e.ext x1) _ fun w Hd2 H2 x2 d2 => q w Hd2 H2 (x1.trans x2) d2)
  | false => exact iteF (h2 rfl _ _ σ Hd1 H1 (e.ext x1) _ fun w Hd2 H2 x2 d2 => q w Hd2 H2 (x1.trans x2) d2)

/-! ### operators -/
theorem rd_I0 {g : Int → Int → V} {i j : Int} (h : ∀ Hd, Dt K Hd (g i j) z) : RD K (rI0 g) (.int i) (.int j) z := fun Hd H v w e h1 h2 Q q => by
  cases h1; cases h2
  exact ⟨i, j, rfl, rfl, q _ Hd H (.refl e) (h Hd)⟩
theorem rd_I {C : Int → Int → Prop} {g : Int → Int → V} {i j : Int} (hc : C i j) (h : ∀ Hd, Dt K Hd (g i j) z) : RD K (rI C g) (.int i) (.int j) z := fun Hd H v w e h1 h2 Q q => by
  cases h1; cases h2
  exact ⟨i, j, rfl, rfl, hc, q _ Hd H (.refl e) (h Hd)⟩
theorem rd_eqD (h1 : SeqAt.shaped x = true) (h2 : SeqAt.shaped y = true) : RD K (rEqD K) x y (.bool (PyData.eqv x y)) := fun Hd H v w e d1 d2 Q q =>
  ⟨x, y, (d1.mono e).dp (SeqAt.canLay_of_shaped h1), (d2.mono e).dp (SeqAt.canLay_of_shaped h2), h1, h2, q _ Hd H (.refl e) (.bl _)⟩
theorem rd_neD (h1 : SeqAt.shaped x = true) (h2 : SeqAt.shaped y = true) : RD K (rNeD K) x y (.bool (!PyData.eqv x y)) := fun Hd H v w e d1 d2 Q q =>
  ⟨x, y, (d1.mono e).dp (SeqAt.canLay_of_shaped h1), (d2.mono e).dp (SeqAt.canLay_of_shaped h2), h1, h2, q _ Hd H (.refl e) (.bl _)⟩
/-- the data that an index gives -/
theorem rd_ixL {i : Int} (h : atI xs i = some z) : RD K (rIx K) (.list xs) (.int i) z := fun Hd H v w e d1 d2 Q q => by
  cases d2
  cases d1 with
  | lst h1 h2 =>
    unfold atI at h
    cases hj : ixN xs.length i with
    | none => rw [hj] at h; cases h
    | some j =>
      rw [hj] at h
      obtain ⟨u, g1, g2⟩ := h2.got (i := j) h
      exact .inl ⟨_, _, i, u, rfl, rfl, SqL.of (e _ _ h1), (by unfold atI; rw [h2.length, hj]; exact g1), q _ Hd H (.refl e) g2⟩
theorem rd_ixT {i : Int} (h : atI xs i = some z) : RD K (rIx K) (.tuple xs) (.int i) z := fun Hd H v w e d1 d2 Q q => by
  cases d2
  cases d1 with
  | tup h1 h2 =>
    unfold atI at h
    cases hj : ixN xs.length i with
    | none => rw [hj] at h; cases h
    | some j =>
      rw [hj] at h
      obtain ⟨u, g1, g2⟩ := h2.got (i := j) h
      exact .inr (.inl ⟨_, _, i, u, rfl, rfl, ((h1.mono e).sq (K := K)), (by unfold atI; rw [h2.length, hj]; exact g1), q _ Hd H (.refl e) g2⟩)
theorem rd_ixS {s : Str} {i : Int} {c : Nat} (hl : s.length ≤ 100000) (h : atI s.cps.toList i = some c) : RD K (rIx K) (.str s) (.int i) (.str ⟨#[c]⟩) := fun Hd H v w e d1 d2 Q q => by
  cases d2
  cases d1
  exact .inr (.inr ⟨s, i, c, rfl, rfl, fits_of hl, h, q _ Hd H (.refl e) (.str _)⟩)
theorem rf_cat (hl : xs.length + ys.length ≤ 100000) : RF K rCat (.list xs) (.list ys) (xs ++ ys) := fun Hd H v w e d1 d2 Q q => by
  cases d1 with
  | lst h1 h2 => cases d2 with
    | lst g1 g2 => exact ⟨_, _, _, _, rfl, rfl, e _ _ h1, e _ _ g1, fits_of (by rw [h2.length, g2.length]; exact hl), fun p hp => q p _ Hd _ ((Ext.refl e).mut hp (Evl.fresh_back e hp)) hp (Evl.fresh_back e hp) upd_same (h2.append g2)⟩
end
end DL

namespace DL
open PySem PySem.Spec PyProof.Rows L2
open Evl (Ex)
open RZ

def wipeG (Γ : List G) : List Nat → List G
  | [] => Γ
  | v :: vs => (wipeG Γ vs).set v .any
theorem En.wipe {K : PySem.W.Frag} {Hd0 H0 Hd H : Hp} {Γ : List G} {σ : L2.St} (e : En K Hd0 H0 Γ σ Hd H) : ∀ vs : List Nat, En K Hd0 H0 (wipeG Γ vs) (wipe σ vs) Hd H
  | [] => e
  | v :: vs => (En.wipe e vs).forget
theorem wipe_set {σ : L2.St} {i : Nat} {x : Option V} : ∀ {vs : List Nat}, i ∈ vs → wipe (σ.set i x) vs = wipe σ vs
  | [], h => by cases h
  | v :: vs, h => by
    show (wipe (σ.set i x) vs).set v none = (wipe σ vs).set v none
    by_cases z : i ∈ vs
    · rw [wipe_set z]
    · have e : i = v := by
        rcases List.mem_cons.mp h with q | q
        · exact q
        · exact absurd q z
      subst e
      have aux : ∀ (ws : List Nat) (τ : L2.St), i ∉ ws → wipe (τ.set i x) ws = (wipe τ ws).set i x := by
        intro ws
        induction ws with
        | nil => intro τ _; rfl
        | cons u us ih =>
          intro τ hn
          have hu : u ≠ i := fun q => hn (by rw [q]; exact List.mem_cons_self)
          have hs : i ∉ us := fun q => hn (List.mem_cons_of_mem _ q)
          show (wipe (τ.set i x) us).set u none = ((wipe τ us).set u none).set i x
          rw [ih τ hs, List.set_comm _ _ hu.symm]
      rw [aux vs σ z, List.set_set]
theorem wipe_wipe {σ : L2.St} {vs : List Nat} : ∀ {ws : List Nat}, (∀ i ∈ ws, i ∈ vs) → wipe (wipe σ ws) vs = wipe σ vs
  | [], _ => rfl
  | w :: ws, h => by
    show wipe ((wipe σ ws).set w none) vs = wipe σ vs
    rw [wipe_set (h w List.mem_cons_self), wipe_wipe fun i hi => h i (List.mem_cons_of_mem _ hi)]

section
variable (K : PySem.W.Frag)
/-- a target takes the data d: what is known afterwards; only the slots vs have changed -/
def GD (g : TG) (Γ : List G) (d : PyData) (vs : List Nat) (Δ : List G) : Prop := ∀ Hd0 H0 σ Hd H v, En K Hd0 H0 Γ σ Hd H → Dt K Hd v d → ∀ Q : L2.St → Hp → Prop, (∀ σ', En K Hd0 H0 Δ σ' Hd H → wipe σ' vs = wipe σ vs → Q σ' H) → g v σ H Q
def GDs (g : TGs) (Γ : List G) (ds : List PyData) (vs : List Nat) (Δ : List G) : Prop := ∀ Hd0 H0 σ Hd H ws, En K Hd0 H0 Γ σ Hd H → DtA K Hd ws ds → ∀ Q : L2.St → Hp → Prop, (∀ σ', En K Hd0 H0 Δ σ' Hd H → wipe σ' vs = wipe σ vs → Q σ' H) → g ws σ H Q
/-- an iterator hands out the data ds, one behind another -/
def ItOk (J : It) (Hd1 : Hp) (ds : List PyData) : Prop := ∀ Hd' H', Ex Hd1 Hd' → Ex Hd' H' → J.stop ds.length H' ∧ ∀ i d, ds[i]? = some d → J.go i H' ∧ ∀ x H'', J.yld i H' x H'' → ∃ Hd'', Ext Hd' H' Hd'' H'' ∧ Dt K Hd'' x d
def EI (wi : TI) (Γ : List G) (ds : List PyData) : Prop := ∀ Hd0 H0 σ Hd H, En K Hd0 H0 Γ σ Hd H → ∀ R : It → Hp → Prop, (∀ J Hd1 H1, Ext Hd H Hd1 H1 → ItOk K J Hd1 ds → R J H1) → wi σ H R
end
section
variable {K : PySem.W.Frag} {Γ Δ Θ : List G} {ta tb tc te tl : TE} {tt tu : TT} {r : R2} {d e x y z : PyData} {ds es xs ys : List PyData} {b c : Bool} {g : TG} {gs : TGs} {vs : List Nat}
theorem gd_name {i : Nat} (h : i ∈ vs) : GD K (gName i) Γ d vs (Γ.set i (.dat d)) := fun _ _ σ Hd H v e hd Q q => q _ (e.set hd) (wipe_set h)
theorem gds_nil : GDs K gNil Γ [] vs Γ := fun _ _ σ Hd H ws e hd Q q => by
  cases hd
  exact ⟨rfl, q σ e rfl⟩
theorem gds_cons (h : GD K g Γ d vs Δ) (hs : GDs K gs Δ ds vs Θ) : GDs K (gCons g gs) Γ (d :: ds) vs Θ := fun _ _ σ Hd H ws e hd Q q => by
  cases hd with
  | cons h1 h2 => exact ⟨_, _, rfl, h _ _ σ Hd H _ e h1 _ fun σ1 e1 w1 => hs _ _ σ1 Hd H _ e1 h2 Q fun σ2 e2 w2 => q σ2 e2 (w2.trans w1)⟩
theorem gd_tup {n : Nat} (h : GDs K gs Γ ds vs Δ) (hn : ds.length = n) : GD K (gTup K n gs) Γ (.tuple ds) vs Δ := fun _ _ σ Hd H v e hd Q q => by
  cases hd with
  | tup h1 h2 => exact ⟨_, _, rfl, ((h1.mono e.x.i).sq (K := K)), by rw [h2.length, hn], h _ _ σ Hd H _ e h2 Q q⟩
/-- a pair of two names -/
theorem gd_two {i j : Nat} (hi : i ∈ vs) (hj : j ∈ vs) : GD K (gTup K 2 (gCons (gName i) (gCons (gName j) gNil))) Γ (.tuple [x, y]) vs ((Γ.set i (.dat x)).set j (.dat y)) :=
  gd_tup (gds_cons (gd_name hi) (gds_cons (gd_name hj) gds_nil)) rfl

/-! ### iterators -/
theorem ei_list (h : ED K tl Γ (.list ds)) : EI K (iList K tl) Γ ds := fun _ _ σ Hd H e R q => h _ _ σ Hd H e _ fun v Hd1 H1 x1 d1 => by
  cases d1 with
  | lst h1 h2 =>
    refine ⟨_, rfl, ⟨_, SqL.of (x1.i _ _ h1)⟩, q _ Hd1 H1 x1 fun Hd' H' e1 e2 => ?_⟩
    have hl := SqL.of (K := K) (e2 _ _ (e1 _ _ h1))
    refine ⟨⟨_, hl, by rw [h2.length]; exact Nat.le_refl _⟩, fun i d hd => ?_⟩
    obtain ⟨u, g1, g2⟩ := h2.got hd
    exact ⟨⟨_, u, hl, g1⟩, fun x H'' ⟨eH, y⟩ => by
      have z := y _ hl
      rw [g1] at z
      cases z
      subst eH
      exact ⟨Hd', .refl e2, g2.mono e1⟩⟩
theorem ei_tup (h : ED K tl Γ (.tuple ds)) : EI K (iTup K tl) Γ ds := fun _ _ σ Hd H e R q => h _ _ σ Hd H e _ fun v Hd1 H1 x1 d1 => by
  cases d1 with
  | tup h1 h2 =>
    refine ⟨_, rfl, ⟨_, ((h1.mono x1.i).sq (K := K))⟩, q _ Hd1 H1 x1 fun Hd' H' e1 e2 => ?_⟩
    have hl := (((h1.mono e1).mono e2).sq (K := K))
    refine ⟨⟨_, hl, by rw [h2.length]; exact Nat.le_refl _⟩, fun i d hd => ?_⟩
    obtain ⟨u, g1, g2⟩ := h2.got hd
    exact ⟨⟨_, u, hl, g1⟩, fun x H'' ⟨eH, y⟩ => by
      have z := y _ hl
      rw [g1] at z
      cases z
      subst eH
      exact ⟨Hd', .refl e2, g2.mono e1⟩⟩
theorem ei_rng1 {ta : TA} {n : Int} (h : EA K ta Γ [.int n]) (hn : n ≤ 100000) (h0 : -100000 ≤ n := by omega) : EI K (iRng1 ta) Γ ((List.range n.toNat).map fun (k : Nat) => .int (k : Int)) := fun _ _ σ Hd H e R q => h _ _ σ Hd H e _ fun v Hd1 H1 x1 d1 => by
  cases d1 with
  | cons d1 d2 =>
    cases d1
    cases d2
    refine ⟨n, rfl, by omega, by omega, q _ Hd1 H1 x1 fun Hd' H' e1 e2 => ⟨by simp [Itr]; omega, fun i d hd => ?_⟩⟩
    rw [List.getElem?_map] at hd
    by_cases hi : i < n.toNat
    · rw [List.getElem?_range hi] at hd
      cases hd
      refine ⟨hi, fun x H'' ⟨eH, ex⟩ => ?_⟩
      subst eH ex
      refine ⟨Hd', .refl e2, ?_⟩
      rw [Int.zero_add]
      exact .int _
    · rw [List.getElem?_eq_none (by simpa using hi)] at hd
      cases hd
theorem ei_str {s : Str} (h : ED K te Γ (.str s)) : EI K (iStr te) Γ (s.cps.toList.map fun c => .str ⟨#[c]⟩) := fun _ _ σ Hd H e R q => h _ _ σ Hd H e _ fun v Hd1 H1 x1 d1 => by
  cases d1
  refine ⟨s, rfl, q _ Hd1 H1 x1 fun Hd' H' e1 e2 => ⟨by simp [Its], fun i d hd => ?_⟩⟩
  rw [List.getElem?_map] at hd
  cases hc : s.cps.toList[i]? with
  | none => rw [hc] at hd; cases hd
  | some c =>
    rw [hc] at hd
    cases hd
    have hi : i < s.cps.size := by
      have := (List.getElem?_eq_some_iff.mp hc).1
      simpa using this
    refine ⟨hi, fun x H'' ⟨eH, c', hc', ex⟩ => ?_⟩
    subst eH ex
    have : c' = c := by
      have h2 : s.cps[i]? = some c := by simpa using hc
      rw [h2] at hc'
      exact (Option.some.inj hc').symm
    subst this
    exact ⟨Hd', .refl e2, .str _⟩
/-- pairs of the items of two rows -/
def zipD (xs ys : List PyData) : List PyData := (xs.zip ys).map fun p => .tuple [p.1, p.2]
theorem zipD_get {i : Nat} (h : (zipD xs ys)[i]? = some d) : ∃ x y, xs[i]? = some x ∧ ys[i]? = some y ∧ d = .tuple [x, y] := by
  unfold zipD at h
  rw [List.getElem?_map] at h
  cases hp : (xs.zip ys)[i]? with
  | none => rw [hp] at h; cases h
  | some p =>
    rw [hp] at h
    cases h
    obtain ⟨h1, h2⟩ := List.getElem?_zip_eq_some.mp hp
    exact ⟨p.1, p.2, h1, h2, rfl⟩
theorem zipD_len : (zipD xs ys).length = min xs.length ys.length := by
  unfold zipD
  rw [List.length_map, List.length_zip]
def enumD (xs : List PyData) : List PyData := zipD ((List.range xs.length).map fun (k : Nat) => .int (k : Int)) xs
/-! ### a list comprehension -/
theorem take_filter_succ {α β : Type} {p : α → Bool} {f : α → β} {l : List α} {i : Nat} {d : α} (h : l[i]? = some d) :
    ((l.take (i + 1)).filter p).map f = ((l.take i).filter p).map f ++ (if p d = true then [f d] else []) := by
  rw [List.take_add_one, h, List.filter_append, List.map_append]
  show _ ++ List.map f (List.filter p [d]) = _
  by_cases z : p d = true
  · rw [if_pos z]; simp [z]
  · rw [if_neg z]; simp [z]
theorem ef_lc {wi : TI} {p : PyData → Bool} {f : PyData → PyData} (hi : EI K wi Γ ds) (hl : ds.length ≤ 100000)
    (ht : ∀ d ∈ ds, ∃ Δ, GD K g (wipeG Γ vs) d vs Δ ∧ ET K tt Δ (p d) ∧ (p d = true → ED K te Δ (f d))) : EF K (tLc wi g tt te vs) Γ ((ds.filter p).map f) := by
  intro Hd0 H0 σ Hd H e Q q
  refine hi _ _ σ Hd H e _ fun J Hd1 H1 x1 ok D hD => ?_
  have nD : H D = none := Evl.fresh_back x1.h hD
  have nD1 : Hd1 D = none := Evl.fresh_back x1.i hD
  refine ⟨fun i m G => m = ds.length - i ∧ i ≤ ds.length ∧ ∃ Hd2 acc, Ext Hd1 H1 Hd2 G ∧ Hd2 D = none ∧ G D = some (.lst acc) ∧ DtA K Hd2 acc (((ds.take i).filter p).map f),
    ⟨ds.length, rfl, Nat.zero_le _, Hd1, [], (Ext.refl x1.i).mut hD nD1, nD1, upd_same, .nil⟩, ?_⟩
  rintro i m G ⟨rfl, hle, Hd2, acc, x2, n2, a2, t2⟩
  obtain ⟨st, go⟩ := ok Hd2 G x2.d x2.i
  by_cases hlt : i < ds.length
  · have hd : ds[i]? = some ds[i] := by simp [hlt]
    obtain ⟨gi, yl⟩ := go i _ hd
    refine .inr ⟨gi, fun G' => ∃ Hd2 acc, Ext Hd1 H1 Hd2 G' ∧ Hd2 D = none ∧ G' D = some (.lst acc) ∧ DtA K Hd2 acc (((ds.take (i + 1)).filter p).map f), fun G' w => ⟨ds.length - (i + 1), by omega, rfl, hlt, w⟩, fun x H3 y3 => ?_⟩
    obtain ⟨Hd3, x3, d3⟩ := yl x H3 y3
    obtain ⟨Δ, hg, htt, hte⟩ := ht _ (List.getElem_mem hlt)
    have x13 := x2.trans x3
    have n3 : Hd3 D = none := x3.f _ _ n2 a2
    have a3 := x3.h _ _ a2
    refine hg _ _ _ Hd3 H3 x ((e.ext (x1.trans x13)).wipe vs) d3 _ fun σ2 e2 w2 => ⟨w2.trans (wipe_wipe fun _ z => z), ?_⟩
    refine htt _ _ σ2 Hd3 H3 e2 _ fun Hd4 H4 x4 => ?_
    have n4 : Hd4 D = none := x4.f _ _ n3 a3
    have a4 := x4.h _ _ a3
    have l4 : acc.length < sizeLine := by
      have l0 := t2.length
      rw [List.length_map] at l0
      have l1 := List.length_filter_le p (ds.take i)
      rw [List.length_take] at l1
      have l2 : acc.length < 100000 := by omega
      exact Nat.lt_of_lt_of_le l2 (by decide)
    rw [take_filter_succ hd]
    by_cases z : p ds[i] = true
    · rw [if_pos z, if_pos z]
      refine hte z _ _ σ2 Hd4 H4 (e2.ext x4) _ fun y Hd5 H5 x5 d5 => ⟨acc, x5.h _ _ a4, l4, Hd5, _, ((x13.trans (x4.trans x5)).mut hD (x5.f _ _ n4 a4)), x5.f _ _ n4 a4, upd_same, ?_⟩
      exact (t2.mono (x3.d.trans (x4.d.trans x5.d))).append (.cons d5 .nil)
    · rw [if_neg z, if_neg z, List.append_nil]
      exact ⟨Hd4, acc, x13.trans x4, n4, a4, t2.mono (x3.d.trans x4.d)⟩
  · have ei : i = ds.length := by omega
    subst ei
    rw [List.take_length] at t2
    exact .inl ⟨st, q D acc Hd2 G (x1.trans x2) nD n2 a2 t2⟩
theorem et_yes : ET K tYes Γ true := fun _ _ σ Hd H e Q q => q Hd H (.refl e.x.i)
/-- no test -/
theorem ef_lc0 {wi : TI} {f : PyData → PyData} (hi : EI K wi Γ ds) (hl : ds.length ≤ 100000)
    (ht : ∀ d ∈ ds, ∃ Δ, GD K g (wipeG Γ vs) d vs Δ ∧ ED K te Δ (f d)) : EF K (tLc wi g tYes te vs) Γ (ds.map f) := by
  have h := ef_lc (p := fun _ => true) (f := f) hi hl fun d hd => let ⟨Δ, a, b⟩ := ht d hd; ⟨Δ, a, et_yes, fun _ => b⟩
  have z : ds.filter (fun _ => true) = ds := List.filter_eq_self.mpr fun _ _ => rfl
  rw [z] at h
  exact h
end
end DL

namespace DL
open PySem PySem.Spec PyProof.Rows L2
open Evl (Ex)
open RZ

/-! ### statements -/
inductive Out where
  | nx (Γ : List G) | rt (d : PyData)
def OutOk (K : PySem.W.Frag) (Hd0 H0 Hd : Hp) (D : Ends) : Out → Prop
  | .nx Γ => ∀ σ' Hd' H', En K Hd0 H0 Γ σ' Hd' H' → Ex Hd Hd' → D.nx σ' H'
  | .rt d => ∀ v Hd' H', Ext Hd0 H0 Hd' H' → Dt K Hd' v d → D.rt v H'
theorem OutOk.mono {K : PySem.W.Frag} {Hd0 H0 Hd Hd1 : Hp} {D : Ends} {o : Out} (h : OutOk K Hd0 H0 Hd D o) (e : Ex Hd Hd1) : OutOk K Hd0 H0 Hd1 D o := by
  cases o with
  | nx Γ => exact fun σ' Hd' H' n x => h σ' Hd' H' n (e.trans x)
  | rt d => exact h
def SD (K : PySem.W.Frag) (ts : TS) (Γ : List G) (o : Out) : Prop := ∀ Hd0 H0 σ Hd H, En K Hd0 H0 Γ σ Hd H → ∀ D : Ends, OutOk K Hd0 H0 Hd D o → ts D σ H
section
variable {K : PySem.W.Frag} {Γ Δ Θ : List G} {ta tb tc te tl : TE} {tt tu : TT} {d e x y z : PyData} {ds es xs ys : List PyData} {b c : Bool} {g : TG} {gs : TGs} {vs : List Nat} {t u : TS} {o : Out} {i j : Nat}
theorem sd_seq (h : SD K t Γ (.nx Δ)) (k : SD K u Δ o) : SD K (tSeq t u) Γ o := fun _ _ σ Hd H e D q =>
  h _ _ σ Hd H e _ fun σ' Hd' H' e' x => k _ _ σ' Hd' H' e' D (q.mono x)
theorem sd_seqR (h : SD K t Γ (.rt d)) : SD K (tSeq t u) Γ (.rt d) := fun _ _ σ Hd H e D q => h _ _ σ Hd H e _ q
theorem sd_next : SD K tNext Γ (.nx Γ) := fun _ _ σ Hd H e D q => q σ Hd H e (.refl _)
theorem sd_asg (h : ED K te Γ d) (hg : GD K g Γ d vs Δ) : SD K (tAsg te g) Γ (.nx Δ) := fun _ _ σ Hd H e D q =>
  h _ _ σ Hd H e _ fun v Hd1 H1 x1 d1 => hg _ _ σ Hd1 H1 v (e.ext x1) d1 _ fun σ' e' _ => q σ' Hd1 H1 e' x1.d
theorem sd_set (h : ED K te Γ d) : SD K (tAsg te (gName i)) Γ (.nx (Γ.set i (.dat d))) := sd_asg h (gd_name (vs := [i]) (List.mem_singleton.mpr rfl))
/-- a new list that the def keeps for itself -/
theorem En.setOwn {Hd0 H0 Hd H : Hp} {σ : L2.St} (e : En K Hd0 H0 Γ σ Hd H) {a : Addr} {ws : List V} (n0 : H0 a = none) (n1 : Hd a = none) (h : H a = some (.lst ws)) (hd : DtA K Hd ws ds)
    (new : ∀ (j : Nat) (es : List PyData), Γ[j]? = some (G.own es) → σ[j]? ≠ some (some (V.ref a))) : En K Hd0 H0 (Γ.set i (.own ds)) (σ.set i (some (.ref a))) Hd H := by
  refine ⟨e.x, by simp [e.l], fun j g hg => ?_, fun j k fs es w hjk h1 h2 w1 w2 => ?_⟩
  · by_cases z : i = j
    · subst z
      have q := get_set_eq hg
      subst q
      have hi : i < Γ.length := by
        have := (List.getElem?_eq_some_iff.mp hg).1
        simpa using this
      exact ⟨a, ws, by simp [e.l ▸ hi], n0, n1, h, hd⟩
    · rw [List.getElem?_set_ne z] at hg
      have q := e.g j g hg
      cases g with
      | any => trivial
      | val v => show (σ.set i _)[j]? = _; rw [List.getElem?_set_ne z]; exact q
      | dat d => obtain ⟨v, h1, h2⟩ := q; exact ⟨v, by rw [List.getElem?_set_ne z]; exact h1, h2⟩
      | own ds => obtain ⟨a, vs, h1, h2⟩ := q; exact ⟨a, vs, by rw [List.getElem?_set_ne z]; exact h1, h2⟩
      | lck ds => obtain ⟨a, o, u, h1, h2⟩ := q; exact ⟨a, o, u, by rw [List.getElem?_set_ne z]; exact h1, h2⟩
      | ownD _ ds => obtain ⟨a, vs, h1, h2⟩ := q; exact ⟨a, vs, by rw [List.getElem?_set_ne z]; exact h1, h2⟩
  · have slot : ∀ (m : Nat) (l : G), (Γ.set i (.own ds))[m]? = some l → m = i → (σ.set i (some (.ref a)))[m]? = some (some (.ref a)) := fun m l hm z => by
      subst z
      have hi : m < Γ.length := by
        have := (List.getElem?_eq_some_iff.mp hm).1
        simpa using this
      simp [e.l ▸ hi]
    by_cases zj : j = i
    · have s1 := slot j _ h1 zj
      have nk : i ≠ k := fun z => hjk (zj.trans z)
      rw [List.getElem?_set_ne nk] at h2 w2
      rw [s1] at w1
      rw [← w1] at w2
      exact new k es h2 w2
    · by_cases zk : k = i
      · have s2 := slot k _ h2 zk
        have nj : i ≠ j := fun z => zj z.symm
        rw [List.getElem?_set_ne nj] at h1 w1
        rw [s2] at w2
        rw [← w2] at w1
        exact new j fs h1 w1
      · have nj : i ≠ j := fun z => zj z.symm
        have nk : i ≠ k := fun z => zk z.symm
        rw [List.getElem?_set_ne nj] at h1 w1
        rw [List.getElem?_set_ne nk] at h2 w2
        exact e.o j k fs es w hjk h1 h2 w1 w2
theorem sd_own (h : EF K te Γ ds) : SD K (tAsg te (gName i)) Γ (.nx (Γ.set i (.own ds))) := fun _ _ σ Hd H e D q =>
  h _ _ σ Hd H e _ fun a ws Hd1 H1 x1 n1 n2 h1 d1 => q _ Hd1 H1 ((e.ext x1).setOwn (Evl.fresh_back e.x.h n1) n2 h1 d1 fun j es hj hs => by
    obtain ⟨b, vs, g1, _, _, g4, _⟩ := e.own hj
    rw [hs] at g1
    cases g1
    rw [n1] at g4
    cases g4) x1.d
/-- an own list becomes data: nobody changes it any more -/
theorem sd_freeze (hi : Γ[i]? = some (.own ds)) (h : SD K t (Γ.set i (.dat (.list ds))) o) : SD K t Γ o := fun Hd0 H0 σ Hd H e D q => by
  obtain ⟨a, ws, s1, n0, n1, h1, d1⟩ := e.own hi
  have xe : Ext Hd0 H0 (upd Hd a (.lst ws)) H := e.x.take n0 n1 h1
  have en : En K Hd0 H0 (Γ.set i (.dat (.list ds))) σ (upd Hd a (.lst ws)) H := by
    refine ⟨xe, by simp [e.l], fun j g hg => ?_, fun j k fs es w hjk g1 g2 => ?_⟩
    · by_cases z : i = j
      · subst z
        have q := get_set_eq hg
        subst q
        exact ⟨_, s1, .lst upd_same (d1.mono (Ex.new n1))⟩
      · rw [List.getElem?_set_ne z] at hg
        have q := e.g j g hg
        cases g with
        | any => trivial
        | val v => exact q
        | dat d => obtain ⟨v, k1, k2⟩ := q; exact ⟨v, k1, k2.mono (Ex.new n1)⟩
        | own es =>
          obtain ⟨b, vs, k1, k0, k2, k3, k4⟩ := q
          have nb : b ≠ a := fun zb => by
            subst zb
            exact e.o i j ds es _ z hi hg s1 k1
          exact ⟨b, vs, k1, k0, by rw [upd_ne nb]; exact k2, k3, k4.mono (Ex.new n1)⟩
        | lck es => obtain ⟨b, o, u, k1, k2, k3⟩ := q; exact ⟨b, o, u, k1, Ex.new n1 _ _ k2, k3.mono (Ex.new n1)⟩
        | ownD _ es =>
          obtain ⟨b, o, k1, k0, k2, k3, k4⟩ := q
          have nb : b ≠ a := fun zb => by
            subst zb
            rw [h1] at k3
            cases k3
            exact k4.nl rfl
          exact ⟨b, o, k1, k0, by rw [upd_ne nb]; exact k2, k3, k4.mono (Ex.new n1)⟩
    · have nj : i ≠ j := fun z => by subst z; exact nomatch get_set_eq g1
      have nk : i ≠ k := fun z => by subst z; exact nomatch get_set_eq g2
      rw [List.getElem?_set_ne nj] at g1
      rw [List.getElem?_set_ne nk] at g2
      exact e.o j k fs es w hjk g1 g2
  exact h _ _ σ _ H en D (q.mono (Ex.new n1))
theorem tyV_list {H : Hp} {p : Addr} {xs : List V} (h : H p = some (.lst xs)) : tyV K "list" (.ref p) H := .inl ⟨rfl, xs, SqL.of h⟩
/-- name.append(e) of an own list -/
theorem sd_app (hi : Γ[i]? = some (.own ds)) (h : ED K te Γ d) (hl : ds.length < 100000) : SD K (tDrop (tBM K "list" rAppend (tVar i) (tCons te tNil))) Γ (.nx (Γ.set i (.own (ds ++ [d])))) := fun Hd0 H0 σ Hd H e D q => by
  obtain ⟨a, ws, s1, n0, n1, h1, d1⟩ := e.own hi
  refine ⟨_, s1, tyV_list h1, ?_⟩
  refine h _ _ σ Hd H e _ fun v Hd1 H1 x1 dv => ?_
  have e1 := e.ext x1
  have h2 := x1.h _ _ h1
  have n2 := x1.f _ _ n1 h1
  refine ⟨a, ws, v, rfl, rfl, h2, Nat.lt_of_lt_of_le (by rw [d1.length]; exact hl) (by decide : 100000 ≤ sizeLine), ?_⟩
  have dn : DtA K Hd1 (ws ++ [v]) (ds ++ [d]) := (d1.mono x1.d).append (.cons dv .nil)
  refine q σ Hd1 (upd H1 a (.lst (ws ++ [v]))) ⟨e1.x.mut n0 n2, by simp [e1.l], fun j g hg => ?_, fun j k fs es w hjk g1 g2 => ?_⟩ x1.d
  · by_cases z : i = j
    · subst z
      have q := get_set_eq hg
      subst q
      exact ⟨a, _, s1, n0, n2, upd_same, dn⟩
    · rw [List.getElem?_set_ne z] at hg
      have q := e1.g j g hg
      cases g with
      | any => trivial
      | val v => exact q
      | dat d => exact q
      | own es =>
        obtain ⟨b, vs, k1, k0, k2, k3, k4⟩ := q
        have nb : b ≠ a := fun zb => by
          subst zb
          exact e1.o i j ds es _ z hi hg s1 k1
        exact ⟨b, vs, k1, k0, k2, by rw [upd_ne nb]; exact k3, k4⟩
      | lck es => exact q
      | ownD _ es =>
        obtain ⟨b, o, k1, k0, k2, k3, k4⟩ := q
        have nb : b ≠ a := fun zb => by
          subst zb
          rw [h2] at k3
          cases k3
          exact k4.nl rfl
        exact ⟨b, o, k1, k0, k2, by rw [upd_ne nb]; exact k3, k4⟩
  · have aux : ∀ (m : Nat) (l : List PyData), (Γ.set i (.own (ds ++ [d])))[m]? = some (G.own l) → ∃ l' : List PyData, Γ[m]? = some (G.own l') := fun m l hm => by
      by_cases z : i = m
      · subst z; exact ⟨_, hi⟩
      · rw [List.getElem?_set_ne z] at hm; exact ⟨_, hm⟩
    obtain ⟨l1, a1⟩ := aux j _ g1
    obtain ⟨l2, a2⟩ := aux k _ g2
    exact e1.o j k l1 l2 w hjk a1 a2
theorem sd_ret (h : ED K te Γ d) : SD K (tRet te) Γ (.rt d) := fun _ _ σ Hd H e D q => h _ _ σ Hd H e _ fun v Hd1 H1 x1 d1 => q v Hd1 H1 (e.x.trans x1) d1
theorem sd_if (h : ET K tt Γ b) (h1 : b = true → SD K t Γ o) (h2 : b = false → SD K u Γ o) : SD K (tIfS tt t u) Γ o := fun _ _ σ Hd H e D q =>
  h _ _ σ Hd H e _ fun Hd1 H1 x1 => by
    cases b with
    | true => exact iteT (h1 rfl _ _ σ Hd1 H1 (e.ext x1) D (q.mono x1.d))
    | false => exact iteF (h2 rfl _ _ σ Hd1 H1 (e.ext x1) D (q.mono x1.d))
/-- if c: return ..; something behind -/
theorem sd_ifR {t' : TS} (h : ET K tt Γ b) (h1 : b = true → SD K t Γ o) (h2 : b = false → SD K t' Γ o) (ho : ∀ Δ, o ≠ .nx Δ) : SD K (tSeq (tIfS tt t tNext) t') Γ o := fun _ _ σ Hd H e D q =>
  h _ _ σ Hd H e _ fun Hd1 H1 x1 => by
    cases b with
    | true =>
      refine iteT (h1 rfl _ _ σ Hd1 H1 (e.ext x1) _ ?_)
      cases o with
      | nx Δ => exact absurd rfl (ho Δ)
      | rt d => exact q
    | false => exact iteF (h2 rfl _ _ σ Hd1 H1 (e.ext x1) D (q.mono x1.d))
/-- a loop without a way out -/
theorem sd_for {wi : TI} {tbody : TS} (Γs : Nat → List G) (h0 : Γs 0 = Γ) (hi : EI K wi Γ ds)
    (hb : ∀ k d, ds[k]? = some d → ∃ Δ vs, GD K g (Γs k) d vs Δ ∧ SD K tbody Δ (.nx (Γs (k + 1)))) : SD K (tFor wi g tbody) Γ (.nx (Γs ds.length)) := fun Hd0 H0 σ Hd H e D q =>
  hi _ _ σ Hd H e _ fun J Hd1 H1 x1 ok => by
    refine ⟨fun k m σ' H' => m = ds.length - k ∧ k ≤ ds.length ∧ ∃ Hd', Ex Hd1 Hd' ∧ En K Hd0 H0 (Γs k) σ' Hd' H', ⟨ds.length, rfl, Nat.zero_le _, Hd1, .refl _, by rw [h0]; exact e.ext x1⟩, ?_⟩
    rintro k m σ' H' ⟨rfl, hk, Hd', xd, en⟩
    obtain ⟨st, go⟩ := ok Hd' H' xd en.x.i
    by_cases hlt : k < ds.length
    · have hd : ds[k]? = some ds[k] := by simp [hlt]
      obtain ⟨gi, yl⟩ := go k _ hd
      refine .inr ⟨gi, fun σ'' H'' => ∃ Hd'', Ex Hd1 Hd'' ∧ En K Hd0 H0 (Γs (k + 1)) σ'' Hd'' H'', fun σ'' H'' w => ⟨ds.length - (k + 1), by omega, rfl, hlt, w⟩, fun x H2 y2 => ?_⟩
      obtain ⟨Hd2, x2, d2⟩ := yl x H2 y2
      obtain ⟨Δ, vs, hg, hs⟩ := hb k _ hd
      exact hg _ _ σ' Hd2 H2 x (en.ext x2) d2 _ fun σ2 e2 _ => hs _ _ σ2 Hd2 H2 e2 _ fun σ3 Hd3 H3 e3 x3 => ⟨Hd3, xd.trans (x2.d.trans x3), e3⟩
    · have ek : k = ds.length := by omega
      subst ek
      exact .inl ⟨st, q σ' Hd' H' en (x1.d.trans xd)⟩
/-- a loop that returns r at the first item of which stop is true -/
theorem sd_forS {wi : TI} {tbody : TS} {r : PyData} (stop : PyData → Bool) (Γs : Nat → List G) (h0 : Γs 0 = Γ) (hi : EI K wi Γ ds)
    (hb : ∀ k d, ds[k]? = some d → ∃ Δ vs, GD K g (Γs k) d vs Δ ∧ SD K tbody Δ (if stop d = true then .rt r else .nx (Γs (k + 1)))) :
    SD K (tFor wi g tbody) Γ (if ds.any stop = true then .rt r else .nx (Γs ds.length)) := fun Hd0 H0 σ Hd H e D q =>
  hi _ _ σ Hd H e _ fun J Hd1 H1 x1 ok => by
    refine ⟨fun k m σ' H' => m = ds.length - k ∧ k ≤ ds.length ∧ (ds.take k).any stop = false ∧ ∃ Hd', Ex Hd1 Hd' ∧ En K Hd0 H0 (Γs k) σ' Hd' H', ⟨ds.length, rfl, Nat.zero_le _, rfl, Hd1, .refl _, by rw [h0]; exact e.ext x1⟩, ?_⟩
    rintro k m σ' H' ⟨rfl, hk, ha, Hd', xd, en⟩
    obtain ⟨st, go⟩ := ok Hd' H' xd en.x.i
    by_cases hlt : k < ds.length
    · have hd : ds[k]? = some ds[k] := by simp [hlt]
      obtain ⟨gi, yl⟩ := go k _ hd
      refine .inr ⟨gi, fun σ'' H'' => (ds.take (k + 1)).any stop = false ∧ ∃ Hd'', Ex Hd1 Hd'' ∧ En K Hd0 H0 (Γs (k + 1)) σ'' Hd'' H'', fun σ'' H'' w => ⟨ds.length - (k + 1), by omega, rfl, hlt, w⟩, fun x H2 y2 => ?_⟩
      obtain ⟨Hd2, x2, d2⟩ := yl x H2 y2
      obtain ⟨Δ, vs, hg, hs⟩ := hb k _ hd
      refine hg _ _ σ' Hd2 H2 x (en.ext x2) d2 _ fun σ2 e2 _ => ?_
      by_cases z : stop ds[k] = true
      · rw [if_pos z] at hs
        have za : ds.any stop = true := List.any_eq_true.mpr ⟨_, List.getElem_mem hlt, z⟩
        rw [if_pos za] at q
        exact hs _ _ σ2 Hd2 H2 e2 _ q
      · rw [if_neg z] at hs
        refine hs _ _ σ2 Hd2 H2 e2 _ fun σ3 Hd3 H3 e3 x3 => ⟨?_, Hd3, xd.trans (x2.d.trans x3), e3⟩
        rw [List.take_add_one, hd, List.any_append, ha]
        simp [z]
    · have ek : k = ds.length := by omega
      subst ek
      rw [List.take_length] at ha
      rw [ha] at q
      exact .inl ⟨st, q σ' Hd' H' en (x1.d.trans xd)⟩
end

/-! ### the promise of a def that reads data alone -/
def spD (K : PySem.W.Frag) (n : Nat) (dom : List PyData → PyData → Prop) : Sp := fun vs H Q _ => vs.length = n ∧ ∃ Hd ds r, Ex Hd H ∧ DtA K Hd vs ds ∧ dom ds r ∧ ∀ v Hd' H', Ext Hd H Hd' H' → Dt K Hd' v r → Q v H'
def startG (N : List Str) (ds : List PyData) : List G := ds.map G.dat ++ List.replicate (N.length - ds.length) .any
section
variable {K : PySem.W.Frag} {Γ Δ Θ : List G} {ta : TA} {d r : PyData} {ds : List PyData} {t : TS} {n : Nat} {dom : List PyData → PyData → Prop}
theorem ed_call {E : XK} (h : EA K ta Γ ds) (hn : ds.length = n) (hd : dom ds r) : ED K (tCall (spD K n dom) [] E ta) Γ r := fun _ _ σ Hd H e Q q =>
  h _ _ σ Hd H e _ fun vs Hd1 H1 x1 d1 => by
    refine ⟨by rw [List.append_nil, d1.length, hn], Hd1, ds, r, x1.i, ?_, hd, fun v Hd' H' x2 dv => q v Hd' H' (x1.trans x2) dv⟩
    rw [List.append_nil]
    exact d1
theorem start_en {N : List Str} {vs : List V} {Hd H : Hp} (e : Ex Hd H) (h : DtA K Hd vs ds) : En K Hd H (startG N ds) (L2.start N vs) Hd H := by
  have hl := h.length
  refine ⟨.refl e, by simp [startG, L2.start, hl], fun i g hg => ?_, fun i j fs es w _ h1 _ _ => ?_⟩
  · unfold startG at hg
    by_cases hi : i < ds.length
    · rw [List.getElem?_append_left (by simpa using hi), List.getElem?_map, List.getElem?_eq_getElem hi] at hg
      cases hg
      obtain ⟨v, g1, g2⟩ := h.got (List.getElem?_eq_getElem hi)
      refine ⟨v, ?_, g2⟩
      unfold L2.start
      rw [List.getElem?_append_left (by simp; omega), List.getElem?_map, g1]
      rfl
    · rw [List.getElem?_append_right (by simpa using hi), List.getElem?_replicate] at hg
      split at hg
      · cases hg; trivial
      · cases hg
  · exfalso
    unfold startG at h1
    by_cases hi : i < ds.length
    · rw [List.getElem?_append_left (by simpa using hi), List.getElem?_map, List.getElem?_eq_getElem hi] at h1
      cases h1
    · rw [List.getElem?_append_right (by simpa using hi), List.getElem?_replicate] at h1
      split at h1
      · cases h1
      · cases h1
theorem run_d {N : List Str} {vs : List V} {Hd H : Hp} {Q : VK} (e : Ex Hd H) (h : DtA K Hd vs ds) (hs : SD K t (startG N ds) (.rt r)) (q : ∀ v Hd' H', Ext Hd H Hd' H' → Dt K Hd' v r → Q v H') :
    t { nx := fun _ H' => Q .non H', rt := Q } (L2.start N vs) H := hs _ _ _ _ _ (start_en e h) _ q
end
end DL

namespace DL
open PySem PySem.Spec PyProof.Rows L2
open Evl (Ex)
open RZ

section
variable {K : PySem.W.Frag} {Γ Δ Θ : List G} {ta tb tc te tl : TE} {tt tu : TT} {d e x y z : PyData} {ds es xs ys : List PyData} {b c : Bool}
/-! ### tuple(x), list(x), len(x), all(x) -/
theorem ed_tupR (h : ER K te Γ ds) : ED K (tCB (rTupX K) (tCons te tNil)) Γ (.tuple ds) := fun _ _ σ Hd H e Q q => h _ _ σ Hd H e _ fun a vs Hd1 H1 x1 h1 d1 =>
  ⟨a, vs, rfl, .inl ⟨SqL.of h1, fun l o hl ho => q _ (upd Hd1 l (.frz o (.tup vs))) _ (x1.new hl) (.tup (Tp.new ho) (d1.mono (Ex.new (Evl.fresh_back x1.i hl))))⟩⟩
theorem ed_tupT (h : ED K te Γ (.tuple ds)) : ED K (tCB (rTupX K) (tCons te tNil)) Γ (.tuple ds) := fun _ _ σ Hd H e Q q => h _ _ σ Hd H e _ fun v Hd1 H1 x1 d1 => by
  cases d1 with
  | tup h1 h2 => exact ⟨_, _, rfl, .inr ⟨(h1.mono x1.i).sq, q _ Hd1 H1 x1 (.tup h1 h2)⟩⟩
def rListOf (K : PySem.W.Frag) : List V → Hp → VK → Prop := fun xs H Q => ∃ p ys, xs = [.ref p] ∧ (SqL K H p ys ∨ SqT K H p ys) ∧ ∀ l, H l = none → Q (.ref l) (upd H l (.lst ys))
theorem ef_listR (h : ER K te Γ ds) : EF K (tCB (rListOf K) (tCons te tNil)) Γ ds := fun _ _ σ Hd H e Q q => h _ _ σ Hd H e _ fun a vs Hd1 H1 x1 h1 d1 =>
  ⟨a, vs, rfl, .inl (SqL.of h1), fun l hl => q l vs Hd1 _ (x1.mut (Evl.fresh_back x1.h hl) (Evl.fresh_back x1.i hl)) (Evl.fresh_back x1.h hl) (Evl.fresh_back x1.i hl) upd_same d1⟩
theorem ef_listT (h : ED K te Γ (.tuple ds)) : EF K (tCB (rListOf K) (tCons te tNil)) Γ ds := fun _ _ σ Hd H e Q q => h _ _ σ Hd H e _ fun v Hd1 H1 x1 d1 => by
  cases d1 with
  | tup h1 h2 => exact ⟨_, _, rfl, .inr (h1.mono x1.i).sq, fun l hl => q l _ Hd1 _ (x1.mut (Evl.fresh_back x1.h hl) (Evl.fresh_back x1.i hl)) (Evl.fresh_back x1.h hl) (Evl.fresh_back x1.i hl) upd_same h2⟩
def rLenOf (K : PySem.W.Frag) : List V → Hp → VK → Prop := fun xs H Q => ∃ p ys, xs = [.ref p] ∧ (SqL K H p ys ∨ SqT K H p ys) ∧ Q (.int ys.length) H
theorem ed_lenR (h : ER K te Γ ds) : ED K (tCB (rLenOf K) (tCons te tNil)) Γ (.int ds.length) := fun _ _ σ Hd H e Q q => h _ _ σ Hd H e _ fun a vs Hd1 H1 x1 h1 d1 =>
  ⟨a, vs, rfl, .inl (SqL.of h1), by rw [d1.length]; exact q _ Hd1 H1 x1 (.int _)⟩
theorem ed_lenT (h : ED K te Γ (.tuple ds)) : ED K (tCB (rLenOf K) (tCons te tNil)) Γ (.int ds.length) := fun _ _ σ Hd H e Q q => h _ _ σ Hd H e _ fun v Hd1 H1 x1 d1 => by
  cases d1 with
  | tup h1 h2 => exact ⟨_, _, rfl, .inr (h1.mono x1.i).sq, by rw [h2.length]; exact q _ Hd1 H1 x1 (.int _)⟩
theorem ed_all {bs : List Bool} (h : ER K te Γ (bs.map PyData.bool)) : ED K (tCB (rAll K) (tCons te tNil)) Γ (.bool (bs.all id)) := fun _ _ σ Hd H e Q q => h _ _ σ Hd H e _ fun a vs Hd1 H1 x1 h1 d1 =>
  ⟨a, bs, rfl, SqL.of (by rw [h1, d1.ofBls]), q _ Hd1 H1 x1 (.bl _)⟩

/-! ### kinds -/
def tyD : PyData → String
  | .none => "NoneType"
  | .bool _ => "bool"
  | .int _ => "int"
  | .str _ => "str"
  | .list _ => "list"
  | .tuple _ => "tuple"
  | .dict _ => "dict"
theorem Dt.ty {H : Hp} {v : V} (h : Dt K H v d) : TyX K H v (.type (tyD d)) := by
  cases h with
  | non => exact .base .non
  | bl b => exact .base (.bl b)
  | int b => exact .base (.int b)
  | str b => exact .base (.str b)
  | lst h1 _ => exact .base (.lst h1)
  | tup h1 _ => obtain ⟨o, h1, _⟩ := h1; exact .fTuple h1
  | dct h1 _ => exact .base (.dK h1)
  | dctT h1 _ _ => exact .base (.dT h1)
theorem TyX.up {H H' : Hp} {v : V} (e : Ex H H') (h : Dt K H v d) : TyX K H' v (.type (tyD d)) := (h.mono e).ty
theorem ed_isi {T : String} (h : ED K te Γ d) (hk : kitB (tyD d) T = some b) : ED K (tCB (rIsi K) (tCons te (tCons (tC (.ty T)) tNil))) Γ (.bool b) := fun _ _ σ Hd H e Q q => h _ _ σ Hd H e _ fun v Hd1 H1 x1 d1 =>
  ⟨v, .ty T, _, _, b, rfl, .ty T, TyX.up x1.i d1, kit_ty hk, q _ Hd1 H1 x1 (.bl b)⟩
theorem ed_isi2 {T U : String} {b1 b2 : Bool} (h : ED K te Γ d) (h1 : kitB (tyD d) T = some b1) (h2 : kitB (tyD d) U = some b2) :
    ED K (tCB (rIsiT K) (tCons te (tCons (tTup (tCons (tC (.ty T)) (tCons (tC (.ty U)) tNil))) tNil))) Γ (.bool (b1 || b2)) := fun _ _ σ Hd H e Q q => h _ _ σ Hd H e _ fun v Hd1 H1 x1 d1 =>
  ⟨(by show 2 ≤ sizeLine; decide), fun p hp => ⟨v, p, _, _, _, b1 || b2, rfl, upd_same, .cons (.ty T) (.cons (.ty U) .nil), TyX.up (x1.i.trans (Ex.new hp)) d1,
    kitAny_cons (kit_ty h1) (fun z => kitAny_cons (kit_ty h2) (fun w => by rw [z, w]; rfl) (fun w => by rw [w, Bool.or_true])) (fun z => by rw [z]; rfl),
    q _ Hd1 _ (x1.mut (Evl.fresh_back x1.h hp) (Evl.fresh_back x1.i hp)) (.bl _)⟩⟩
theorem kitB_eq {T : String} {b : Bool} (h : kitB (tyD d) T = some b) : kitB (tyD d) T = some b := h

/-! ### slices -/
theorem cut_dt {H : Hp} {vs : List V} {lo hi : Option Int} (h : DtA K H vs ds) : DtA K H (cutV vs lo hi) ((ds.drop (HT.sIx ds.length 0 lo)).take (HT.sIx ds.length ds.length hi - HT.sIx ds.length 0 lo)) := by
  unfold cutV
  rw [h.length]
  exact (h.drop _).take _
def cutD (ds : List PyData) (lo hi : Option Int) : List PyData := (ds.drop (HT.sIx ds.length 0 lo)).take (HT.sIx ds.length ds.length hi - HT.sIx ds.length 0 lo)
theorem eo_no : EO K tNoPart Γ none := fun _ _ σ Hd H e Q q => q Hd H (.refl e.x.i)
theorem eo_int {i : Int} (h : ED K te Γ (.int i)) : EO K (tPart te) Γ (some i) := fun _ _ σ Hd H e Q q => h _ _ σ Hd H e _ fun v Hd1 H1 x1 d1 => by
  cases d1
  exact ⟨i, rfl, q Hd1 H1 x1⟩
theorem ef_sl {tlo thi : TO} {lo hi : Option Int} (h : ED K te Γ (.list ds)) (h1 : EO K tlo Γ lo) (h2 : EO K thi Γ hi) : EF K (tSl (rSlL K) te tlo thi) Γ (cutD ds lo hi) := fun _ _ σ Hd H e Q q =>
  h _ _ σ Hd H e _ fun v Hd1 H1 x1 d1 => h1 _ _ σ Hd1 H1 (e.ext x1) _ fun Hd2 H2 x2 => h2 _ _ σ Hd2 H2 ((e.ext x1).ext x2) _ fun Hd3 H3 x3 => by
    cases d1 with
    | lst g1 g2 =>
      have x13 := x1.trans (x2.trans x3)
      exact ⟨_, _, rfl, SqL.of ((x2.trans x3).h _ _ (x1.i _ _ g1)), fun p hp => q p _ Hd3 _ (x13.mut (Evl.fresh_back x13.h hp) (Evl.fresh_back x13.i hp)) (Evl.fresh_back x13.h hp) (Evl.fresh_back x13.i hp) upd_same
        (cut_dt (g2.mono (x2.d.trans x3.d)))⟩
theorem cutD_all {lo hi : Option Int} (h : HT.sIx ds.length 0 lo = 0 ∧ HT.sIx ds.length ds.length hi = ds.length) : cutD ds lo hi = ds := by
  unfold cutD
  rw [h.1, h.2]
  simp
theorem ed_slT {tlo thi : TO} {lo hi : Option Int} (h : ED K te Γ (.tuple ds)) (h1 : EO K tlo Γ lo) (h2 : EO K thi Γ hi) : ED K (tSl (rSlX K) te tlo thi) Γ (.tuple (cutD ds lo hi)) := fun _ _ σ Hd H e Q q =>
  h _ _ σ Hd H e _ fun v Hd1 H1 x1 d1 => h1 _ _ σ Hd1 H1 (e.ext x1) _ fun Hd2 H2 x2 => h2 _ _ σ Hd2 H2 ((e.ext x1).ext x2) _ fun Hd3 H3 x3 => by
    cases d1 with
    | tup g1 g2 =>
      have x13 := x1.trans (x2.trans x3)
      have xd := x2.d.trans x3.d
      refine ⟨_, _, rfl, ((g1.mono x1.i).mono (x2.trans x3).h).sq, fun w => ?_, fun _ p o hp ho => q _ (upd Hd3 p (.frz o (.tup _))) _ (x13.new hp) (.tup (Tp.new ho) ((cut_dt (g2.mono xd)).mono (Ex.new (Evl.fresh_back x13.i hp))))⟩
      rw [g2.length] at w
      rw [cutD_all w] at q
      exact q _ Hd3 H3 x13 (.tup (g1.mono xd) (g2.mono xd))

/-! ### in, not in a list or tuple of texts -/
theorem inV_strs {s : Str} : ∀ (xs : List Str), inV (.str s) (xs.map V.str) = decide (s ∈ xs)
  | [] => rfl
  | x :: xs => by
    show (eqV (.str x) (.str s) || inV (.str s) (xs.map V.str)) = _
    rw [inV_strs xs]
    show ((x == s) || decide (s ∈ xs)) = _
    by_cases z : x = s
    · subst z; simp
    · have z' : ¬ s = x := fun q => z q.symm
      simp [z, z']
theorem flat_strs : ∀ (xs : List Str), (xs.map V.str).all flatV = true
  | [] => rfl
  | x :: xs => by show (true && _) = true; rw [flat_strs xs]; rfl
theorem rd_inL {s : Str} {xs : List Str} : RD K (rIn K false) (.str s) (.list (xs.map PyData.str)) (.bool (decide (s ∈ xs))) := fun Hd H v w e d1 d2 Q q => by
  cases d1
  cases d2 with
  | lst h1 h2 =>
    rw [h2.ofStrs] at h1
    exact ⟨_, _, rfl, .inl (SqL.of (e _ _ h1)), rfl, flat_strs xs, by rw [inV_strs]; exact q _ Hd H (.refl e) (.bl _)⟩
theorem rd_inT {s : Str} {xs : List Str} : RD K (rIn K false) (.str s) (.tuple (xs.map PyData.str)) (.bool (decide (s ∈ xs))) := fun Hd H v w e d1 d2 Q q => by
  cases d1
  cases d2 with
  | tup h1 h2 =>
    rw [h2.ofStrs] at h1
    exact ⟨_, _, rfl, .inr (((h1.mono e).sq (K := K))), rfl, flat_strs xs, by rw [inV_strs]; exact q _ Hd H (.refl e) (.bl _)⟩
theorem rd_niL {s : Str} {xs : List Str} : RD K (rIn K true) (.str s) (.list (xs.map PyData.str)) (.bool (!decide (s ∈ xs))) := fun Hd H v w e d1 d2 Q q => by
  cases d1
  cases d2 with
  | lst h1 h2 =>
    rw [h2.ofStrs] at h1
    exact ⟨_, _, rfl, .inl (SqL.of (e _ _ h1)), rfl, flat_strs xs, by rw [inV_strs]; exact q _ Hd H (.refl e) (.bl _)⟩
theorem rd_niT {s : Str} {xs : List Str} : RD K (rIn K true) (.str s) (.tuple (xs.map PyData.str)) (.bool (!decide (s ∈ xs))) := fun Hd H v w e d1 d2 Q q => by
  cases d1
  cases d2 with
  | tup h1 h2 =>
    rw [h2.ofStrs] at h1
    exact ⟨_, _, rfl, .inr (((h1.mono e).sq (K := K))), rfl, flat_strs xs, by rw [inV_strs]; exact q _ Hd H (.refl e) (.bl _)⟩
/-- texts joined by + -/
def glueR : R2 := fun x y H Q => ∃ i j, x = .str i ∧ y = .str j ∧ i.length + j.length ≤ sizeLine ∧ Q (.str (i ++ j)) H
theorem rd_catS {s t : Str} (h : s.length + t.length ≤ 100000) : RD K glueR (.str s) (.str t) (.str (s ++ t)) := fun Hd H v w e d1 d2 Q q => by
  cases d1
  cases d2
  exact ⟨s, t, rfl, rfl, fits_of h, q _ Hd H (.refl e) (.str _)⟩
def rIsNon : R2 := fun x y H Q => y = .non ∧ Q (.bl (decide (x = .non))) H
theorem rd_isN : RD K rIsNon d .none (.bool (match d with | .none => true | _ => false)) := fun Hd H v w e d1 d2 Q q => by
  cases d2
  refine ⟨rfl, ?_⟩
  cases d1 with
  | non => exact q _ Hd H (.refl e) (.bl _)
  | bl b => exact q _ Hd H (.refl e) (.bl _)
  | int b => exact q _ Hd H (.refl e) (.bl _)
  | str b => exact q _ Hd H (.refl e) (.bl _)
  | lst h1 _ => exact q _ Hd H (.refl e) (.bl _)
  | tup h1 _ => exact q _ Hd H (.refl e) (.bl _)
  | dct h1 _ => exact q _ Hd H (.refl e) (.bl _)
  | dctT h1 _ _ => exact q _ Hd H (.refl e) (.bl _)
end
end DL

namespace DL
open PySem PySem.Spec PyProof.Rows L2
open Evl (Ex)
open RZ

/-- a def of the text under its global name -/
structure Tx (K : PySem.W.Frag) (mg : Str → Option Value) (x : Str) (ps : List Str) (st : Stmt) : Prop where
  ex : ∃ f fd, Fun K x x st f fd ∧ mg x = some (.ref f) ∧ Binds K fd ps []
/-- a def that keeps its promise, up to a depth of calls -/
structure Df (P : Program) (w : World) (K : PySem.W.Frag) (mg : Str → Option Value) (base : Heap) (k : Nat) (x : Str) (ps : List Str) (sp : Sp) : Prop where
  ex : ∃ f fd, FnOk P w K mg base CX0 k f fd ps sp ∧ mg x = some (.ref f) ∧ PySem.W.keepIn K (.ref f) = true ∧ Binds K fd ps []
theorem Df.mono {P : Program} {w : World} {K : PySem.W.Frag} {mg : Str → Option Value} {base : Heap} {j k : Nat} {x : Str} {ps : List Str} {sp : Sp} (D : Df P w K mg base j x ps sp) (h : j ≤ k) : Df P w K mg base k x ps sp := by
  obtain ⟨f, fd, F, m, k1, b⟩ := D.ex
  exact ⟨f, fd, F.mono h, m, k1, b⟩
theorem Df.imp {P : Program} {w : World} {K : PySem.W.Frag} {mg : Str → Option Value} {base : Heap} {k : Nat} {x : Str} {ps : List Str} {sp sp' : Sp} (D : Df P w K mg base k x ps sp) (h : ∀ vs H Q E, sp' vs H Q E → sp vs H Q E) : Df P w K mg base k x ps sp' := by
  obtain ⟨f, fd, F, m, k1, b⟩ := D.ex
  exact ⟨f, fd, F.imp h, m, k1, b⟩
section
variable {P : Program} {w : World} {K : PySem.W.Frag} {mg : Str → Option Value} {base : Heap}
theorem Tx.ok {x : Str} {ps N : List Str} {st : Stmt} {k : Nat} {sp : Sp} (T : Tx K mg x ps st) (S : FnScope N ps (defScope st)) (len : ∀ vs H Q E, sp vs H Q E → vs.length = ps.length)
    (hbody : ∀ (f : Addr) (cdv : Value) (A : Around) (outer : List Env) (s : Shared) (H : Hp) (vs : List V) (Q : VK) (E : XK), Room k (A.deeper (envOfC x (defScope st) s.heap.objs.size f cdv)) → sp vs H Q E →
      ∃ t, PSs (cxOf CX0 P w K mg base N x (defScope st) f cdv A outer s H E).nox (defBody st) t ∧ t { nx := fun _ H' => Q .non H', rt := Q } (L2.start N vs) H) : Df P w K mg base (k + 1) x ps sp := by
  obtain ⟨f, fd, F, m, b⟩ := T.ex
  exact ⟨f, fd, F.ok S len (hbody f), m, F.kp, b⟩
theorem tx_mk {x : Str} {ps : List Str} {st : Stmt} {h : Heap} {f : Addr} {oc : Value} {od an : Option Addr} {osl : Array (Option Value)} {kV doc pm cdv ct : Value} (X : K.In h) (G : h.Ns mainGlobals mg) (a : PySem.W.nsIn K mainGlobals x = some (some (.ref f)))
    (l : K.lookup f = some ⟨oc, od, .func (PySem.W.fnOf x x (defArgs st) (defBody st) (defScope st) .none kV doc pm an cdv ct), osl⟩)
    (c : PySem.W.codeIn K cdv x = true) (k : PySem.W.keepIn K (.ref f) = true)
    (hb : ∀ (kV doc pm : Value) (an : Option Addr) (cdv ct : Value) (us : List Value), us.length = ps.length → bindArgs (PySem.W.fnOf x x (defArgs st) (defBody st) (defScope st) .none kV doc pm an cdv ct) ⟨us, []⟩ = pure (ps.zip us)) : Tx K mg x ps st := by
  have F := fun_mk (st := st) l c k
  exact ⟨f, _, F, PySem.W.mg_of X G a, F.binds hb⟩
variable {X : Cx} {x : Str} {ps : List Str} {sp : Sp} {p pos : Pos} {e : Expr} {es : List Expr} {t : TA} {j k : Nat}
theorem pe_def (D : Df X.prog X.w X.K X.mg X.base j x ps sp) (hr : Room k X.A) (hj : j ≤ k) (ha : PA X (e :: es) t) (hg : Gl X x := by rfl) (hdb : (x == ("__debug__" : Str)) = false := by decide)
    (he : starEach (e :: es) X.env = (false, eval e X.env) :: starEach es X.env := by rfl) (hpl : (backTo pos (starEach es X.env)).any (·.1) = false := by rfl) : PE X (.Call (.Name x p) (e :: es) [] pos) (tCall sp [] E0 t) := by
  obtain ⟨f, fd, F, m, k1, b⟩ := D.ex
  exact pe_call (F.mono hj) hr hg m k1 b .nil pass0 ha hdb he hpl
theorem pe_def0 (D : Df X.prog X.w X.K X.mg X.base j x ps sp) (hr : Room k X.A) (hj : j ≤ k) (hg : Gl X x := by rfl) (hdb : (x == ("__debug__" : Str)) = false := by decide) : PE X (.Call (.Name x p) [] [] pos) (tCall sp [] E0 tNil) := by
  obtain ⟨f, fd, F, m, k1, b⟩ := D.ex
  exact pe_call0 (F.mono hj) hr hg m k1 b .nil pass0 hdb
end

/-! ### the source of draws -/
def BoxO (c : Nat) (o : HO) : Prop := ∃ g m k : Int, o = .lst [.int g, .int m, .int k] ∧ 0 ≤ g ∧ 0 ≤ m ∧ m < 2 ^ 62 ∧ 0 ≤ k ∧ k ≤ c
theorem BoxO.mono {c c' : Nat} {o : HO} (h : BoxO c o) (hc : c ≤ c') : BoxO c' o := by
  obtain ⟨g, m, k, e, h1, h2, h3, h4, h5⟩ := h
  exact ⟨g, m, k, e, h1, h2, h3, h4, by omega⟩
def spTake : Sp := fun vs H Q _ => ∃ (p : Addr) (top : Int) (c : Nat) (o : HO), vs = [.ref p, .int top] ∧ 1 ≤ top ∧ top < 1073741824 ∧ H p = some o ∧ BoxO c o ∧ c < 2 ^ 60 ∧
  ∀ (r : Int) (o' : HO), 0 ≤ r → r < top → BoxO (c + 1) o' → Q (.int r) (upd H p o')
/-- one of a list's items -/
def spOf : Sp := fun vs H Q _ => ∃ (p a : Addr) (ws : List V) (c : Nat) (o : HO), vs = [.ref p, .ref a] ∧ H a = some (.lst ws) ∧ a ≠ p ∧ 0 < ws.length ∧ ws.length < 1073741824 ∧ H p = some o ∧ BoxO c o ∧ c < 2 ^ 60 ∧
  ∀ (v : V) (o' : HO), v ∈ ws → BoxO (c + 1) o' → Q v (upd H p o')
section
variable {K : PySem.W.Frag} {σ : L2.St} {H : Hp} {Q : VK}
/-- an item of a list in a slot, at a written place -/
theorem ix_own {i : Nat} {n : Int} {p : Addr} {xs : List V} {v : V} (hs : σ[i]? = some (some (.ref p))) (hp : H p = some (.lst xs)) (ha : atI xs n = some v) (q : Q v H) : tOp (rIx K) (tVar i) (tC (.int n)) σ H Q :=
  ⟨_, hs, .inl ⟨p, xs, n, v, rfl, rfl, SqL.of hp, ha, q⟩⟩
theorem cut_to (xs : List V) (m : Nat) : cutV xs none (some (m : Int)) = xs.take m := by
  unfold cutV
  rw [HT.sIx_none, HT.sIx_nat, List.drop_zero, Nat.sub_zero]
  by_cases h : m ≤ xs.length
  · rw [Nat.min_eq_left h]
  · rw [Nat.min_eq_right (by omega), List.take_length, List.take_of_length_le (by omega)]
theorem cut_from (xs : List V) (m n : Nat) (h : xs.length ≤ n) : cutV xs (some (m : Int)) (some (n : Int)) = xs.drop m := by
  unfold cutV
  rw [HT.sIx_nat, HT.sIx_nat, Nat.min_eq_right h]
  by_cases h2 : m ≤ xs.length
  · rw [Nat.min_eq_left h2, List.take_of_length_le (by rw [List.length_drop]; omega)]
  · rw [Nat.min_eq_right (by omega), List.drop_length, List.drop_of_length_le (by omega), List.take_nil]
/-- list(xs[:m]) or [0] -/
theorem cells_first {D : Ends} {a : Addr} {ns : List Int} {m : Nat} (h0 : σ[0]? = some (some (.ref a))) (h1 : σ[1]? = some (some (.int (m : Int)))) (ha : SqL K H a (ns.map V.int)) (hm : 1 ≤ m)
    (k : ∀ (p : Addr) (ms : List Int) (H2 : Hp), H p = none → Ex H H2 → H2 p = some (.lst (ms.map V.int)) → 1 ≤ ms.length → ms.length ≤ m → (m < ns.length → ms.length = m) → D.nx (σ.set 2 (some (.ref p))) H2) :
    tAsg (tOrT K (tCB (rListOf K) (tCons (tSl (rSlL K) (tVar 0) tNoPart (tPart (tVar 1))) tNil)) (tLst (tCons (tC (.int 0)) tNil))) (gName 2) D σ H := by
  refine ⟨_, h0, _, h1, m, rfl, a, _, rfl, ha, fun s hs => ⟨s, _, rfl, .inl (SqL.of upd_same), fun l hl => ?_⟩⟩
  rw [cut_to] at hl ⊢
  have e1 : Ex H (upd H s (.lst ((ns.map V.int).take m))) := Ex.new hs
  have e2 := e1.trans (Ex.new (o := .lst ((ns.map V.int).take m)) hl)
  refine ⟨_, .inl ⟨_, SqL.of upd_same, rfl⟩, ?_⟩
  cases hns : ns with
  | nil =>
    subst hns
    rw [show (!(List.take m (([] : List Int).map V.int)).isEmpty) = false by cases m <;> rfl]
    refine iteF ⟨by show 1 ≤ sizeLine; decide, fun p hp => ?_⟩
    exact k p [0] _ (Evl.fresh_back e2 hp) (e2.trans (Ex.new hp)) upd_same (Nat.le_refl _) hm (fun z => by simp at z)
  | cons n r =>
    rw [← hns]
    have hne : (!(List.take m (ns.map V.int)).isEmpty) = true := by
      obtain ⟨m', rfl⟩ : ∃ m', m = m' + 1 := ⟨m - 1, by omega⟩
      rw [hns]
      rfl
    rw [hne]
    refine iteT (k l (ns.take m) _ (Evl.fresh_back e1 hl) e2 (by rw [upd_same, List.map_take]) ?_ ?_ ?_)
    · rw [List.length_take, hns, List.length_cons]; omega
    · rw [List.length_take]; omega
    · intro z; rw [List.length_take]; omega
end
end DL

namespace DL
open PySem PySem.Spec PyProof.Rows L2
open Evl (Ex)
open RZ
def is_list : PyData → Bool
  | .list _ => true
  | _ => false
theorem kb_list : ∀ d : PyData, kitB (tyD d) "list" = some (is_list d)
  | .none => (by decide +kernel : kitB "NoneType" "list" = some false)
  | .bool _ => (by decide +kernel : kitB "bool" "list" = some false)
  | .int _ => (by decide +kernel : kitB "int" "list" = some false)
  | .str _ => (by decide +kernel : kitB "str" "list" = some false)
  | .list _ => (by decide +kernel : kitB "list" "list" = some true)
  | .tuple _ => (by decide +kernel : kitB "tuple" "list" = some false)
  | .dict _ => (by decide +kernel : kitB "dict" "list" = some false)
def is_tuple : PyData → Bool
  | .tuple _ => true
  | _ => false
theorem kb_tuple : ∀ d : PyData, kitB (tyD d) "tuple" = some (is_tuple d)
  | .none => (by decide +kernel : kitB "NoneType" "tuple" = some false)
  | .bool _ => (by decide +kernel : kitB "bool" "tuple" = some false)
  | .int _ => (by decide +kernel : kitB "int" "tuple" = some false)
  | .str _ => (by decide +kernel : kitB "str" "tuple" = some false)
  | .list _ => (by decide +kernel : kitB "list" "tuple" = some false)
  | .tuple _ => (by decide +kernel : kitB "tuple" "tuple" = some true)
  | .dict _ => (by decide +kernel : kitB "dict" "tuple" = some false)
def is_dict : PyData → Bool
  | .dict _ => true
  | _ => false
theorem kb_dict : ∀ d : PyData, kitB (tyD d) "dict" = some (is_dict d)
  | .none => (by decide +kernel : kitB "NoneType" "dict" = some false)
  | .bool _ => (by decide +kernel : kitB "bool" "dict" = some false)
  | .int _ => (by decide +kernel : kitB "int" "dict" = some false)
  | .str _ => (by decide +kernel : kitB "str" "dict" = some false)
  | .list _ => (by decide +kernel : kitB "list" "dict" = some false)
  | .tuple _ => (by decide +kernel : kitB "tuple" "dict" = some false)
  | .dict _ => (by decide +kernel : kitB "dict" "dict" = some true)
def is_bool : PyData → Bool
  | .bool _ => true
  | _ => false
theorem kb_bool : ∀ d : PyData, kitB (tyD d) "bool" = some (is_bool d)
  | .none => (by decide +kernel : kitB "NoneType" "bool" = some false)
  | .bool _ => (by decide +kernel : kitB "bool" "bool" = some true)
  | .int _ => (by decide +kernel : kitB "int" "bool" = some false)
  | .str _ => (by decide +kernel : kitB "str" "bool" = some false)
  | .list _ => (by decide +kernel : kitB "list" "bool" = some false)
  | .tuple _ => (by decide +kernel : kitB "tuple" "bool" = some false)
  | .dict _ => (by decide +kernel : kitB "dict" "bool" = some false)
def is_str : PyData → Bool
  | .str _ => true
  | _ => false
theorem kb_str : ∀ d : PyData, kitB (tyD d) "str" = some (is_str d)
  | .none => (by decide +kernel : kitB "NoneType" "str" = some false)
  | .bool _ => (by decide +kernel : kitB "bool" "str" = some false)
  | .int _ => (by decide +kernel : kitB "int" "str" = some false)
  | .str _ => (by decide +kernel : kitB "str" "str" = some true)
  | .list _ => (by decide +kernel : kitB "list" "str" = some false)
  | .tuple _ => (by decide +kernel : kitB "tuple" "str" = some false)
  | .dict _ => (by decide +kernel : kitB "dict" "str" = some false)
def is_int : PyData → Bool
  | .bool _ => true
  | .int _ => true
  | _ => false
theorem kb_int : ∀ d : PyData, kitB (tyD d) "int" = some (is_int d)
  | .none => (by decide +kernel : kitB "NoneType" "int" = some false)
  | .bool _ => (by decide +kernel : kitB "bool" "int" = some true)
  | .int _ => (by decide +kernel : kitB "int" "int" = some true)
  | .str _ => (by decide +kernel : kitB "str" "int" = some false)
  | .list _ => (by decide +kernel : kitB "list" "int" = some false)
  | .tuple _ => (by decide +kernel : kitB "tuple" "int" = some false)
  | .dict _ => (by decide +kernel : kitB "dict" "int" = some false)
def is_non : PyData → Bool
  | .none => true
  | _ => false
section
variable {K : PySem.W.Frag} {Γ : List G} {te : TE} {d : PyData}
theorem rd_isNon : RD K rIsNon d .none (.bool (is_non d)) := by
  have h := rd_isN (K := K) (d := d)
  cases d <;> exact h
end

/-! ### the law's own look at two things: equal, and of the same kinds at every depth -/
mutual
def sameD : PyData → PyData → Bool
  | .list xs, .list ys => sameA xs ys
  | .tuple xs, .tuple ys => sameA xs ys
  | .none, .none => true
  | .bool a, .bool b => a == b
  | .int a, .int b => a == b
  | .str a, .str b => a == b
  | _, _ => false
def sameA : List PyData → List PyData → Bool
  | [], [] => true
  | x :: xs, y :: ys => sameD x y && sameA xs ys
  | _, _ => false
end
theorem sameA_zip : ∀ (xs ys : List PyData), sameA xs ys = (decide (xs.length = ys.length) && ((xs.zip ys).map fun p => sameD p.1 p.2).all id)
  | [], [] => rfl
  | x :: xs, y :: ys => by
    show (sameD x y && sameA xs ys) = _
    rw [sameA_zip xs ys]
    show _ = (decide (xs.length + 1 = ys.length + 1) && (sameD x y && ((xs.zip ys).map fun p => sameD p.1 p.2).all id))
    by_cases h : xs.length = ys.length
    · have h' : xs.length + 1 = ys.length + 1 := by omega
      rw [decide_eq_true h, decide_eq_true h']
      simp
    · have h' : ¬ xs.length + 1 = ys.length + 1 := by omega
      rw [decide_eq_false h, decide_eq_false h']
      simp
  | [], y :: ys => by
    show false = (decide (0 = ys.length + 1) && _)
    rw [decide_eq_false (by omega)]
    rfl
  | x :: xs, [] => by
    show false = (decide (xs.length + 1 = 0) && _)
    rw [decide_eq_false (by omega)]
    rfl
theorem shaped_mem : ∀ {xs : List PyData}, PyData.canLayAll0 xs = true → PyData.depthAll xs ≤ 64 → ∀ x ∈ xs, PyData.canLay0 x = true ∧ PyData.depth x ≤ PyData.depthAll xs
  | [], _, _, x, h => by cases h
  | y :: ys, h, hd, x, hx => by
    simp only [PyData.canLayAll0, Bool.and_eq_true] at h
    have e : PyData.depthAll (y :: ys) = max y.depth (PyData.depthAll ys) := by simp [PyData.depthAll]
    rcases List.mem_cons.mp hx with q | q
    · subst q
      exact ⟨h.1, by rw [e]; omega⟩
    · obtain ⟨a, b⟩ := shaped_mem h.2 (by rw [e] at hd; omega) x q
      exact ⟨a, by rw [e]; omega⟩
theorem shaped_list {xs : List PyData} (h : SeqAt.shaped (.list xs) = true) : ∀ x ∈ xs, SeqAt.shaped x = true ∧ x.depth < (PyData.list xs).depth := fun x hx => by
  have h1 := SeqAt.canLay_of_shaped h
  have h2 := SeqAt.depth_of_shaped h
  simp only [PyData.canLay0] at h1
  have e : (PyData.list xs).depth = PyData.depthAll xs + 1 := by simp [PyData.depth]
  rw [e] at h2
  obtain ⟨a, b⟩ := shaped_mem h1 (by omega) x hx
  exact ⟨by unfold SeqAt.shaped; rw [a, decide_eq_true (by omega)]; rfl, by rw [e]; omega⟩
theorem shaped_tup {xs : List PyData} (h : SeqAt.shaped (.tuple xs) = true) : ∀ x ∈ xs, SeqAt.shaped x = true ∧ x.depth < (PyData.tuple xs).depth := fun x hx => by
  have h1 := SeqAt.canLay_of_shaped h
  have h2 := SeqAt.depth_of_shaped h
  simp only [PyData.canLay0] at h1
  have e : (PyData.tuple xs).depth = PyData.depthAll xs + 1 := by simp [PyData.depth]
  rw [e] at h2
  obtain ⟨a, b⟩ := shaped_mem h1 (by omega) x hx
  exact ⟨by unfold SeqAt.shaped; rw [a, decide_eq_true (by omega)]; rfl, by rw [e]; omega⟩
/-- a promise that nobody can ask -/
theorem Tx.none {P : Program} {w : World} {K : PySem.W.Frag} {mg : Str → Option Value} {base : Heap} {x : Str} {ps : List Str} {st : Stmt} {n : Nat} (X : Tx K mg x ps st) : Df P w K mg base 0 x ps (spD K n fun _ _ => False) := by
  obtain ⟨f, fd, F, m, b⟩ := X.ex
  refine ⟨f, fd, ⟨fun vs H Q E h => ?_, fun A outer s H args us vs Q E hr he hb hv h => ?_⟩, m, F.kp, b⟩
  · obtain ⟨_, _, _, _, _, _, z, _⟩ := h
    exact z.elim
  · obtain ⟨_, _, _, _, _, _, z, _⟩ := h
    exact z.elim

mutual
/-- no long row within -/
def shortD : PyData → Bool
  | .list xs => decide (xs.length ≤ 100000) && shortA xs
  | .tuple xs => decide (xs.length ≤ 100000) && shortA xs
  | .dict _ => false
  | .none => true
  | .bool _ => true
  | .int _ => true
  | .str _ => true
def shortA : List PyData → Bool
  | [] => true
  | x :: xs => shortD x && shortA xs
end
theorem shortA_mem : ∀ {xs : List PyData}, shortA xs = true → ∀ x ∈ xs, shortD x = true
  | [], _, x, h => by cases h
  | y :: ys, h, x, hx => by
    simp only [shortA, Bool.and_eq_true] at h
    rcases List.mem_cons.mp hx with q | q
    · subst q; exact h.1
    · exact shortA_mem h.2 x q
def fine (d : PyData) : Bool := SeqAt.shaped d && shortD d
theorem fine_shaped {d : PyData} (h : fine d = true) : SeqAt.shaped d = true := (Bool.and_eq_true_iff.mp h).1
theorem fine_list {xs : List PyData} (h : fine (.list xs) = true) : xs.length ≤ 100000 ∧ ∀ x ∈ xs, fine x = true ∧ x.depth < (PyData.list xs).depth := by
  obtain ⟨h1, h2⟩ := Bool.and_eq_true_iff.mp h
  simp only [shortD, Bool.and_eq_true, decide_eq_true_eq] at h2
  exact ⟨h2.1, fun x hx => ⟨Bool.and_eq_true_iff.mpr ⟨(shaped_list h1 x hx).1, shortA_mem h2.2 x hx⟩, (shaped_list h1 x hx).2⟩⟩
theorem fine_tup {xs : List PyData} (h : fine (.tuple xs) = true) : xs.length ≤ 100000 ∧ ∀ x ∈ xs, fine x = true ∧ x.depth < (PyData.tuple xs).depth := by
  obtain ⟨h1, h2⟩ := Bool.and_eq_true_iff.mp h
  simp only [shortD, Bool.and_eq_true, decide_eq_true_eq] at h2
  exact ⟨h2.1, fun x hx => ⟨Bool.and_eq_true_iff.mpr ⟨(shaped_tup h1 x hx).1, shortA_mem h2.2 x hx⟩, (shaped_tup h1 x hx).2⟩⟩
def domSame (n : Nat) : List PyData → PyData → Prop := fun ds r => ∃ g d, ds = [g, d] ∧ d.depth < n ∧ fine g = true ∧ fine d = true ∧ r = .bool (sameD g d)
section
variable {K : PySem.W.Frag} {Γ : List G} {a b : Bool}
theorem rd_neB : RD K (rNeD K) (.bool a) (.bool b) (.bool (a != b)) := by
  have h := rd_neD (K := K) (x := .bool a) (y := .bool b) rfl rfl
  have e : (!PyData.eqv (.bool a) (.bool b)) = (a != b) := by simp [PyData.eqv, bne]
  rw [e] at h
  exact h
theorem rd_eqB : RD K (rEqD K) (.bool a) (.bool b) (.bool (a == b)) := by
  have h := rd_eqD (K := K) (x := .bool a) (y := .bool b) rfl rfl
  have e : PyData.eqv (.bool a) (.bool b) = (a == b) := by simp [PyData.eqv]
  rw [e] at h
  exact h
theorem rd_eqI {i j : Int} : RD K (rEqD K) (.int i) (.int j) (.bool (decide (i = j))) := by
  have h := rd_eqD (K := K) (x := .int i) (y := .int j) rfl rfl
  have e : PyData.eqv (.int i) (.int j) = decide (i = j) := by simp only [PyData.eqv]; rfl
  rw [e] at h
  exact h
def pairSame : PyData → PyData
  | .tuple [x, y] => .bool (sameD x y)
  | _ => .none
theorem map_pairSame : ∀ (xs ys : List PyData), (zipD xs ys).map pairSame = ((xs.zip ys).map fun p => sameD p.1 p.2).map PyData.bool := fun xs ys => by
  unfold zipD
  rw [List.map_map, List.map_map]
  rfl
/-- the row of answers, item by item -/
theorem er_same {D : List PyData → PyData → Prop} {E : XK} {wi : TI} {i j : Nat} {vs : List Nat} {xs ys : List PyData} (hi : EI K wi Γ (zipD xs ys)) (hl : xs.length ≤ 100000) (h1 : i ∈ vs) (h2 : j ∈ vs) (hij : i ≠ j) (hib : i < (wipeG Γ vs).length) (hjb : j < (wipeG Γ vs).length)
    (hD : ∀ x y, x ∈ xs → y ∈ ys → D [x, y] (.bool (sameD x y))) :
    ER K (tLc wi (gTup K 2 (gCons (gName i) (gCons (gName j) gNil))) tYes (tCall (spD K 2 D) [] E (tCons (tVar i) (tCons (tVar j) tNil))) vs) Γ (((xs.zip ys).map fun p => sameD p.1 p.2).map PyData.bool) := by
  refine EF.rd ((ef_lc0 (f := pairSame) hi (by rw [zipD_len]; omega) fun d hd => ?_).is (map_pairSame xs ys))
  obtain ⟨k, hk⟩ := List.getElem?_of_mem hd
  obtain ⟨x, y, hx, hy, rfl⟩ := zipD_get hk
  refine ⟨_, gd_two h1 h2, ed_call (ea_cons (ed_var (d := x) ?_) (ea_cons (ed_var (d := y) ?_) ea_nil)) rfl (hD x y (List.mem_of_getElem? hx) (List.mem_of_getElem? hy))⟩
  · rw [List.getElem?_set_ne hij.symm, List.getElem?_set_self hib]
  · rw [List.getElem?_set_self (by simpa using hjb)]
end
end DL

namespace DL
open PySem PySem.Spec PyProof.Rows L2
open Evl (Ex)
open RZ

/-! ### texts in order -/
abbrev ltS (a b : Str) : Bool := ltCps a.cps.toList b.cps.toList
theorem lt_irr : ∀ a : List Nat, ltCps a a = false
  | [] => rfl
  | a :: r => by
    show (decide (a < a) || (a == a && ltCps r r)) = false
    rw [lt_irr r]
    simp
theorem lt_tri : ∀ {a b : List Nat}, ltCps a b = false → ltCps b a = false → a = b
  | [], [], _, _ => rfl
  | [], _ :: _, h, _ => by cases h
  | _ :: _, [], _, h => by cases h
  | a :: r, b :: t, h1, h2 => by
    simp only [ltCps, Bool.or_eq_false_iff, decide_eq_false_iff_not, Bool.and_eq_false_imp, beq_iff_eq] at h1 h2
    have e : a = b := by omega
    subst e
    rw [lt_tri (h1.2 rfl) (h2.2 rfl)]
theorem lt_trans' : ∀ {a b c : List Nat}, ltCps a b = true → ltCps b c = true → ltCps a c = true
  | [], [], _, h, _ => by cases h
  | [], _ :: _, [], _, h => by cases h
  | [], _ :: _, _ :: _, _, _ => rfl
  | _ :: _, [], _, h, _ => by cases h
  | _ :: _, _ :: _, [], _, h => by cases h
  | a :: r, b :: t, c :: u, h1, h2 => by
    simp only [ltCps, Bool.or_eq_true, decide_eq_true_eq, Bool.and_eq_true, beq_iff_eq] at h1 h2 ⊢
    rcases h1 with h1 | ⟨e1, h1⟩ <;> rcases h2 with h2 | ⟨e2, h2⟩
    · exact .inl (by omega)
    · exact .inl (by omega)
    · exact .inl (by omega)
    · exact .inr ⟨by omega, lt_trans' h1 h2⟩
theorem str_ext {a b : Str} (h : a.cps.toList = b.cps.toList) : a = b := by
  cases a; cases b
  simpa using h
theorem leS_trans {a b c : Str} (h1 : ltS b a = false) (h2 : ltS c b = false) : ltS c a = false := by
  cases h : ltS c a with
  | false => rfl
  | true =>
    exfalso
    cases hbc : ltS b c with
    | true => exact nomatch h1.symm.trans (lt_trans' hbc h)
    | false =>
      have e : b = c := str_ext (lt_tri hbc h2)
      subst e
      rw [h1] at h
      cases h
theorem rising_all : ∀ {x : Str} {r : List Str}, risingS x r = true → ∀ y ∈ r, ltS y x = false
  | x, [], _, y, h => by cases h
  | x, z :: r, h, y, hy => by
    simp only [risingS, Bool.and_eq_true, Bool.not_eq_true'] at h
    rcases List.mem_cons.mp hy with q | q
    · subst q; exact h.1
    · exact leS_trans h.1 (rising_all h.2 y q)
theorem sortedS_tail {x : Str} {r : List Str} (h : sortedS (x :: r) = true) : sortedS r = true := by
  cases r with
  | nil => rfl
  | cons y t =>
    simp only [sortedS, risingS, Bool.and_eq_true] at h
    exact h.2
theorem sorted_unique : ∀ {l m : List Str}, l.Perm m → sortedS l = true → sortedS m = true → l = m
  | [], m, p, _, _ => (List.Perm.nil_eq p)
  | x :: r, [], p, _, _ => by
    have := p.length_eq
    simp at this
  | x :: r, y :: t, p, h1, h2 => by
    have hx : x ∈ y :: t := p.mem_iff.mp List.mem_cons_self
    have hy : y ∈ x :: r := p.mem_iff.mpr List.mem_cons_self
    have e : x = y := by
      rcases List.mem_cons.mp hx with q | q
      · exact q
      · rcases List.mem_cons.mp hy with q2 | q2
        · exact q2.symm
        · exact str_ext (lt_tri (rising_all h2 x q) (rising_all h1 y q2))
    subst e
    rw [sorted_unique (List.Perm.cons_inv p) (sortedS_tail h1) (sortedS_tail h2)]
def insS (x : Str) : List Str → List Str
  | [] => [x]
  | y :: r => if ltS y x = true then y :: insS x r else x :: y :: r
def sortS : List Str → List Str
  | [] => []
  | x :: r => insS x (sortS r)
theorem insS_perm (x : Str) : ∀ l : List Str, (insS x l).Perm (x :: l)
  | [] => .refl _
  | y :: r => by
    unfold insS
    by_cases h : ltS y x = true
    · rw [if_pos h]
      exact ((insS_perm x r).cons y).trans (.swap x y r)
    · rw [if_neg h]
theorem sortS_perm : ∀ l : List Str, (sortS l).Perm l
  | [] => .refl _
  | x :: r => (insS_perm x (sortS r)).trans ((sortS_perm r).cons x)
theorem rising_of : ∀ {x : Str} {l : List Str}, sortedS l = true → (∀ y ∈ l, ltS y x = false) → risingS x l = true
  | x, [], _, _ => rfl
  | x, y :: r, h, hy => by
    show (!ltS y x && risingS y r) = true
    rw [hy y List.mem_cons_self]
    simpa [sortedS] using h
theorem insS_sorted (x : Str) : ∀ {l : List Str}, sortedS l = true → sortedS (insS x l) = true
  | [], _ => rfl
  | y :: r, h => by
    unfold insS
    by_cases hc : ltS y x = true
    · rw [if_pos hc]
      refine rising_of (insS_sorted x (sortedS_tail h)) fun z hz => ?_
      rcases List.mem_cons.mp ((insS_perm x r).mem_iff.mp hz) with q | q
      · subst q
        cases hz2 : ltS z y with
        | false => rfl
        | true =>
          have := lt_trans' hc hz2
          rw [lt_irr] at this
          cases this
      · exact rising_all h z q
    · rw [if_neg hc]
      have hc' : ltS y x = false := by simpa using hc
      show (!ltS y x && risingS y r) = true
      rw [hc']
      simpa [sortedS] using h
theorem sortS_sorted : ∀ l : List Str, sortedS (sortS l) = true
  | [] => rfl
  | x :: r => insS_sorted x (sortS_sorted r)
theorem sortS_mem {x : Str} {l : List Str} : x ∈ sortS l ↔ x ∈ l := (sortS_perm l).mem_iff
theorem sortS_len (l : List Str) : (sortS l).length = l.length := (sortS_perm l).length_eq

section
variable {K : PySem.W.Frag} {Γ Δ : List G} {ta tb te tl : TE} {d x y z : PyData} {ds xs ys : List PyData} {b : Bool} {gs : TGs} {vs : List Nat}
theorem ef_sortS {ss : List Str} (h : ER K te Γ (ss.map PyData.str)) (hl : ss.length < 64) : EF K (tCB (rSortedS K) (tCons te tNil)) Γ ((sortS ss).map PyData.str) := fun _ _ σ Hd H e Q q =>
  h _ _ σ Hd H e _ fun a vs Hd1 H1 x1 h1 d1 => by
    rw [d1.ofStrs] at h1
    refine ⟨a, ss, rfl, SqL.of h1, hl, fun ys p hp hs np => ?_⟩
    have ey : ys = sortS ss := sorted_unique (hp.trans (sortS_perm ss).symm) hs (sortS_sorted ss)
    subst ey
    exact q p _ Hd1 _ (x1.mut (Evl.fresh_back x1.h np) (Evl.fresh_back x1.i np)) (Evl.fresh_back x1.h np) (Evl.fresh_back x1.i np) upd_same (DtA.strs _)

/-! ### a walk of a list or a tuple, a pair of either kind -/
def iSeq (K : PySem.W.Frag) (tl : TE) : TI := fun σ H R => tl σ H fun x H1 => ∃ a, x = .ref a ∧ (((∃ xs, SqL K H1 a xs) ∧ R (Itl K a) H1) ∨ ((∃ xs, SqT K H1 a xs) ∧ R (Itt K a) H1))
theorem pi_seq {X : Cx} {tg l : Expr} (hl : PE X l tl) : PI X tg l (iSeq X.K tl) := by
  refine ⟨fun pins s σ H R I h => ?_⟩
  refine thn (hl.run pins s σ H _ I h) fun v s1 hv => ?_
  obtain ⟨x, H1, I1, r1, a, ex, q⟩ := hv
  subst ex
  have ev : v = Value.ref a := r1
  subst ev
  have fp : ∀ c ∈ [s1.heap.objs.size], FpOk X pins H1 c := fun c hc => by
    have ec : c = s1.heap.objs.size := List.mem_singleton.mp hc
    rw [ec]
    exact I1.fpOk (Nat.le_refl _) (I1.hok.fresh (Nat.le_refl _))
  rcases q with ⟨⟨xs, hq⟩, q⟩ | ⟨⟨xs, hq⟩, q⟩
  · obtain ⟨its, rv, pl, hz⟩ := I1.list hq
    exact wpAny_pyIter_list pl.isList ⟨_, [s1.heap.objs.size], _, _, H1, rfl, I1.kept (t' := s1.toks) fun b o eb => Heap.get?_push_of_some _ eb, turn_list a _, ⟨_, Heap.get?_push_size _ rfl, rfl, rfl⟩, fp, q⟩
  · obtain ⟨its, rv, pl, hz⟩ := I1.tuple hq
    exact wpAny_pyIter_tuple (show s1.heap.IsTuple a its.toArray from pl) ⟨_, [s1.heap.objs.size], _, _, H1, rfl, I1.kept (t' := s1.toks) fun b o eb => Heap.get?_push_of_some _ eb, turn_tuple a _, ⟨_, Heap.get?_push_size _ rfl, rfl, rfl⟩, fp, q⟩
theorem ei_seqL (h : ED K tl Γ (.list ds)) : EI K (iSeq K tl) Γ ds := fun _ _ σ Hd H e R q => h _ _ σ Hd H e _ fun v Hd1 H1 x1 d1 => by
  have hh := ei_list h _ _ σ Hd H e R q
  cases d1 with
  | lst h1 h2 =>
    refine ⟨_, rfl, .inl ⟨⟨_, SqL.of (x1.i _ _ h1)⟩, q _ Hd1 H1 x1 fun Hd' H' e1 e2 => ?_⟩⟩
    have hl := SqL.of (K := K) (e2 _ _ (e1 _ _ h1))
    refine ⟨⟨_, hl, by rw [h2.length]; exact Nat.le_refl _⟩, fun i d hd => ?_⟩
    obtain ⟨u, g1, g2⟩ := h2.got hd
    exact ⟨⟨_, u, hl, g1⟩, fun x H'' ⟨eH, y⟩ => by
      have z := y _ hl
      rw [g1] at z
      cases z
      subst eH
      exact ⟨Hd', .refl e2, g2.mono e1⟩⟩
theorem ei_seqT (h : ED K tl Γ (.tuple ds)) : EI K (iSeq K tl) Γ ds := fun _ _ σ Hd H e R q => h _ _ σ Hd H e _ fun v Hd1 H1 x1 d1 => by
  cases d1 with
  | tup h1 h2 =>
    refine ⟨_, rfl, .inr ⟨⟨_, ((h1.mono x1.i).sq (K := K))⟩, q _ Hd1 H1 x1 fun Hd' H' e1 e2 => ?_⟩⟩
    have hl := (((h1.mono e1).mono e2).sq (K := K))
    refine ⟨⟨_, hl, by rw [h2.length]; exact Nat.le_refl _⟩, fun i d hd => ?_⟩
    obtain ⟨u, g1, g2⟩ := h2.got hd
    exact ⟨⟨_, u, hl, g1⟩, fun x H'' ⟨eH, y⟩ => by
      have z := y _ hl
      rw [g1] at z
      cases z
      subst eH
      exact ⟨Hd', .refl e2, g2.mono e1⟩⟩
def gSeq (K : PySem.W.Frag) (n : Nat) (t : TGs) : TG := fun v σ H Q => ∃ a xs, v = .ref a ∧ (SqL K H a xs ∨ SqT K H a xs) ∧ xs.length = n ∧ t xs σ H Q
theorem pg_seq {X : Cx} {pos : Pos} {es : List Expr} {k : Nat} {t : TGs} {n : Nat} (hc : X.calm = true) (h : PGs X es t)
    (hn : (assignEach es X.env).length = n := by rfl) (hst : (assignEach es X.env).findIdx? (·.1) = none := by rfl) : PG X (.Tuple es k pos) (gSeq X.K n t) := by
  refine ⟨fun pins s σ H v u Q I r hw => ?_⟩
  obtain ⟨a, xs, e1, hq, hl, hw⟩ := hw
  rcases hq with hq | hq
  · exact (pg_unl hc h hn hst).run pins s σ H v u Q I r ⟨a, xs, e1, hq, hl, hw⟩
  · exact (pg_tup hc h hn hst).run pins s σ H v u Q I r ⟨a, xs, e1, hq, hl, hw⟩
theorem gd_seqT {n : Nat} (h : GDs K gs Γ ds vs Δ) (hn : ds.length = n) : GD K (gSeq K n gs) Γ (.tuple ds) vs Δ := fun _ _ σ Hd H v e hd Q q => by
  cases hd with
  | tup h1 h2 => exact ⟨_, _, rfl, .inr (((h1.mono e.x.i).sq (K := K))), by rw [h2.length, hn], h _ _ σ Hd H _ e h2 Q q⟩
theorem gd_seqL {n : Nat} (h : GDs K gs Γ ds vs Δ) (hn : ds.length = n) : GD K (gSeq K n gs) Γ (.list ds) vs Δ := fun _ _ σ Hd H v e hd Q q => by
  cases hd with
  | lst h1 h2 => exact ⟨_, _, rfl, .inl (SqL.of (e.x.i _ _ h1)), by rw [h2.length, hn], h _ _ σ Hd H _ e h2 Q q⟩
end
end DL

namespace DL
open PySem PySem.Spec PyProof.Rows L2
open Evl (Ex)
open RZ

/-! ### rows of either kind -/
def seqOf : PyData → Option (List PyData)
  | .list xs => some xs
  | .tuple xs => some xs
  | _ => none
section
variable {K : PySem.W.Frag} {Γ Δ : List G} {ta tb te tl : TE} {d x y z : PyData} {ds xs ys : List PyData} {b : Bool} {gs : TGs} {vs : List Nat}
theorem rd_ixQ {i : Int} (hs : seqOf d = some xs) (h : atI xs i = some z) : RD K (rIx K) d (.int i) z := by
  cases d with
  | list ys => cases hs; exact rd_ixL h
  | tuple ys => cases hs; exact rd_ixT h
  | _ => exact nomatch hs
theorem ei_seqQ (hs : seqOf d = some ds) (h : ED K tl Γ d) : EI K (iSeq K tl) Γ ds := by
  cases d with
  | list ys => cases hs; exact ei_seqL h
  | tuple ys => cases hs; exact ei_seqT h
  | _ => exact nomatch hs
theorem gd_seqQ {n : Nat} (hs : seqOf d = some ds) (h : GDs K gs Γ ds vs Δ) (hn : ds.length = n) : GD K (gSeq K n gs) Γ d vs Δ := by
  cases d with
  | list ys => cases hs; exact gd_seqL h hn
  | tuple ys => cases hs; exact gd_seqT h hn
  | _ => exact nomatch hs
theorem gd_twoQ {i j : Nat} (hs : seqOf d = some [x, y]) (hi : i ∈ vs) (hj : j ∈ vs) : GD K (gSeq K 2 (gCons (gName i) (gCons (gName j) gNil))) Γ d vs ((Γ.set i (.dat x)).set j (.dat y)) :=
  gd_seqQ hs (gds_cons (gd_name hi) (gds_cons (gd_name hj) gds_nil)) rfl
theorem ed_lenQ (hs : seqOf d = some ds) (h : ED K te Γ d) : ED K (tCB (rLenOf K) (tCons te tNil)) Γ (.int ds.length) := by
  cases d with
  | list ys => cases hs; exact ed_lenR h.rd
  | tuple ys => cases hs; exact ed_lenT h
  | _ => exact nomatch hs

/-! ### a dict among the data -/
theorem DtK.val {H : Hp} {x : Str} : ∀ {ks : List (Key × V)} {kvs : List (PyData × PyData)} {d : PyData}, DtK K H ks kvs → (kvs.find? fun p => match p.1 with | .str y => decide (y = x) | _ => false) = some (.str x, d) → ∃ v, valV ks (.inr x : Key) = some v ∧ Dt K H v d
  | [], _, _, h, e => by cases h; cases e
  | (k, v) :: ks, _, d, h, e => by
    cases h with
    | @cons y _ _ d' kvs h1 h2 =>
      by_cases z : y = x
      · subst z
        simp only [List.find?_cons, decide_true] at e
        cases e
        exact ⟨v, valV_pos rfl, h1⟩
      · simp only [List.find?_cons, decide_eq_false z] at e
        obtain ⟨w, g1, g2⟩ := DtK.val h2 e
        exact ⟨w, by rw [valV_neg (fun q => z (Sum.inr.inj q))]; exact g1, g2⟩
theorem DtK.noval {H : Hp} {x : Str} : ∀ {ks : List (Key × V)} {kvs : List (PyData × PyData)}, DtK K H ks kvs → (kvs.find? fun p => match p.1 with | .str y => decide (y = x) | _ => false) = none → valV ks (.inr x : Key) = none
  | [], _, h, e => rfl
  | (k, v) :: ks, _, h, e => by
    cases h with
    | @cons y _ _ d' kvs h1 h2 =>
      by_cases z : y = x
      · subst z
        simp [List.find?_cons] at e
      · simp only [List.find?_cons, decide_eq_false z] at e
        rw [valV_neg (fun q => z (Sum.inr.inj q))]
        exact DtK.noval h2 e
theorem dtk_snoc {H : Hp} {x : Str} {v : V} {d : PyData} : ∀ {ks : List (Key × V)} {kvs : List (PyData × PyData)}, DtK K H ks kvs → Dt K H v d → DtK K H (ks ++ [(.inr x, v)]) (kvs ++ [(.str x, d)])
  | [], _, h, g => by cases h; exact .cons g .nil
  | _ :: _, _, h, g => by
    cases h with
    | cons h1 h2 => exact .cons h1 (dtk_snoc h2 g)
def lookD (kvs : List (PyData × PyData)) (x : Str) : Option PyData := (kvs.find? fun p => match p.1 with | .str y => decide (y = x) | _ => false).map (·.2)
theorem find_key {kvs : List (PyData × PyData)} {x : Str} {p : PyData × PyData} (h : (kvs.find? fun p => match p.1 with | .str y => decide (y = x) | _ => false) = some p) : p.1 = .str x := by
  have q := List.find?_some h
  cases e : p.1 <;> rw [e] at q <;> first | (simp at q; rw [q]) | cases q
/-- no rows of numbers and texts among the keys -/
def strKeys (kvs : List (PyData × PyData)) : Bool := kvs.all fun p => match p.1 with | .tuple _ => false | _ => true
theorem strKeys_map (ns : List Str) (F : Str → PyData) : strKeys (ns.map fun n => (.str n, F n)) = true := List.all_eq_true.mpr fun p hp => by
  obtain ⟨n, _, rfl⟩ := List.mem_map.mp hp
  rfl
theorem no_rows {H : Hp} {ks : List (List Key × V)} {kvs : List (PyData × PyData)} (h : DtT K H ks kvs) (n : kvs ≠ []) (s : strKeys kvs = true) : False := by
  cases h with
  | nil => exact n rfl
  | cons _ _ => simp [strKeys] at s
theorem no_look {H : Hp} {x : Str} : ∀ {ks : List (List Key × V)} {kvs : List (PyData × PyData)}, DtT K H ks kvs → lookD kvs x = none
  | [], _, h => by cases h; rfl
  | _ :: _, _, h => by
    cases h with
    | cons _ h2 =>
      have ih := no_look (x := x) h2
      unfold lookD at ih ⊢
      rw [List.find?_cons]
      exact ih
theorem ed_dget {x : Str} {kvs : List (PyData × PyData)} (h1 : ED K ta Γ (.dict kvs)) (h2 : ED K tb Γ (.str x)) (hl : lookD kvs x = some d) : ED K (tDGet ta tb) Γ d := fun _ _ σ Hd H e Q q =>
  h1 _ _ σ Hd H e _ fun v Hd1 H1 x1 d1 => h2 _ _ σ Hd1 H1 (e.ext x1) _ fun w Hd2 H2 x2 d2 => by
    cases d2
    cases d1 with
    | dct g1 g2 =>
      unfold lookD at hl
      obtain ⟨p, hp, rfl⟩ := Option.map_eq_some_iff.mp hl
      have ek := find_key hp
      obtain ⟨k, d⟩ := p
      simp only at ek
      subst ek
      obtain ⟨u, e1, e2⟩ := DtK.val g2 hp
      refine ⟨_, u, rfl, ?_, q u Hd2 H2 (x1.trans x2) (e2.mono x2.d)⟩
      rw [← e1]
      exact DGet.k (k := Sum.inr x) (x2.h _ _ (x1.i _ _ g1))
    | dctT g1 g2 g3 => rw [no_look g2] at hl; cases hl
theorem ed_din {x : Str} {kvs : List (PyData × PyData)} (hk : strKeys kvs = true) (h2 : ED K tb Γ (.str x)) (h1 : ED K ta Γ (.dict kvs)) : ED K (tDIn tb ta) Γ (.bool (lookD kvs x).isSome) := fun _ _ σ Hd H e Q q =>
  h2 _ _ σ Hd H e _ fun w Hd1 H1 x1 d1 => h1 _ _ σ Hd1 H1 (e.ext x1) _ fun v Hd2 H2 x2 d2 => by
    cases d1
    cases d2 with
    | dctT g1 g2 g3 => exact (no_rows g2 g3 hk).elim
    | @dct _ ks _ g1 g2 =>
      refine ⟨_, valV ks (.inr x : Key), rfl, DGet.k (k := Sum.inr x) (x2.i _ _ g1), ?_⟩
      have eb : (valV ks (.inr x : Key)).isSome = (lookD kvs x).isSome := by
        unfold lookD
        cases hf : kvs.find? (fun p => match p.1 with | .str y => decide (y = x) | _ => false) with
        | none => rw [DtK.noval g2 hf]; rfl
        | some p =>
          obtain ⟨k, d⟩ := p
          have ek := find_key hf
          simp only at ek
          subst ek
          obtain ⟨u, e1, _⟩ := DtK.val g2 hf
          rw [e1]
          rfl
      rw [eb]
      exact q _ Hd2 H2 (x1.trans x2) (.bl _)

/-! ### CHARTS as data -/
structure ChartIs (d : PyData) (ns : List Str) (ms : List (Str × Str)) : Prop where
  ex : ∃ s st mv sts mvs, seqOf d = some [s, st, mv] ∧ seqOf st = some sts ∧ seqOf mv = some mvs ∧ Paired (fun e n => ∃ w, seqOf e = some [.str n, w]) sts ns ∧ Paired (fun e (p : Str × Str) => seqOf e = some [.str p.1, .str p.2]) mvs ms
  nd : ns.Nodup
  mem : ∀ p ∈ ms, p.1 ∈ ns ∧ p.2 ∈ ns
  nl : ns.length ≤ 1000
  ml : ms.length ≤ 31
def firstOf (e : PyData) : PyData := match seqOf e with
  | some (x :: _) => x
  | _ => .none
theorem map_first : ∀ {sts : List PyData} {ns : List Str}, Paired (fun e n => ∃ w, seqOf e = some [.str n, w]) sts ns → sts.map firstOf = ns.map PyData.str
  | _, _, .nil => rfl
  | _, _, .cons h t => by
    obtain ⟨w, hw⟩ := h
    rw [List.map_cons, List.map_cons, map_first t]
    unfold firstOf
    rw [hw]
theorem pairGet {α β : Type} {F : α → β → Prop} : ∀ {l : List α} {m : List β} {i : Nat} {x : α}, Paired F l m → l[i]? = some x → ∃ y, m[i]? = some y ∧ F x y
  | _, _, _, _, .nil, h => by cases h
  | _, _, 0, _, .cons r t, h => by cases h; exact ⟨_, rfl, r⟩
  | _, _, i + 1, x, .cons r t, h => pairGet (i := i) t h
theorem pairGot {α β : Type} {F : α → β → Prop} : ∀ {l : List α} {m : List β} {i : Nat} {y : β}, Paired F l m → m[i]? = some y → ∃ x, l[i]? = some x ∧ F x y
  | _, _, _, _, .nil, h => by cases h
  | _, _, 0, _, .cons r t, h => by cases h; exact ⟨_, rfl, r⟩
  | _, _, i + 1, x, .cons r t, h => pairGot (i := i) t h
def nearL (ms : List (Str × Str)) (n : Str) : List Str := ms.flatMap fun p => (if p.1 = n then [p.2] else []) ++ (if p.2 = n then [p.1] else [])
def nearD (ns : List Str) (ms : List (Str × Str)) : PyData := .dict (ns.map fun n => (.str n, .list ((sortS (nearL ms n)).map PyData.str)))
theorem nearL_len (ms : List (Str × Str)) (n : Str) : (nearL ms n).length ≤ 2 * ms.length := by
  induction ms with
  | nil => exact Nat.le_refl _
  | cons p r ih =>
    have e : nearL (p :: r) n = ((if p.1 = n then [p.2] else []) ++ (if p.2 = n then [p.1] else [])) ++ nearL r n := by
      unfold nearL; rw [List.flatMap_cons]
    rw [e, List.length_append, List.length_append, List.length_cons]
    have h1 : (if p.1 = n then [p.2] else []).length ≤ 1 := by split <;> simp
    have h2 : (if p.2 = n then [p.1] else []).length ≤ 1 := by split <;> simp
    omega
theorem nearL_mem {ms : List (Str × Str)} {n x : Str} : x ∈ nearL ms n ↔ (n, x) ∈ ms ∨ (x, n) ∈ ms := by
  unfold nearL
  rw [List.mem_flatMap]
  constructor
  · rintro ⟨⟨a, b⟩, hp, hx⟩
    rcases List.mem_append.mp hx with h | h
    · by_cases z : a = n
      · simp only [if_pos z, List.mem_singleton] at h
        subst z h
        exact .inl hp
      · simp [if_neg z] at h
    · by_cases z : b = n
      · simp only [if_pos z, List.mem_singleton] at h
        subst z h
        exact .inr hp
      · simp [if_neg z] at h
  · rintro (h | h)
    · exact ⟨_, h, by simp⟩
    · exact ⟨_, h, by simp⟩
def domNames : List PyData → PyData → Prop := fun ds r => ∃ d ns ms, ds = [d] ∧ ChartIs d ns ms ∧ r = .tuple (ns.map PyData.str)
def domNear : List PyData → PyData → Prop := fun ds r => ∃ d ns ms, ds = [d] ∧ ChartIs d ns ms ∧ r = nearD ns ms
end

/-! ### lists kept in a dict while they grow -/
def dk (as : List (Str × Addr)) : List (Key × V) := as.map fun p => (Sum.inr p.1, V.ref p.2)
theorem dk_look : ∀ {as : List (Str × Addr)} {x : Str} {p : Addr}, (as.map (·.1)).Nodup → (x, p) ∈ as → valV (dk as) (.inr x : Key) = some (.ref p)
  | [], _, _, _, h => by cases h
  | (y, q) :: r, x, p, nd, h => by
    rw [List.map_cons, List.nodup_cons] at nd
    by_cases z : y = x
    · subst z
      rcases List.mem_cons.mp h with e | h
      · cases e; exact valV_pos rfl
      · exact absurd (List.mem_map_of_mem h) nd.1
    · rcases List.mem_cons.mp h with e | h
      · cases e; exact absurd rfl z
      · show valV ((Sum.inr y, V.ref q) :: dk r) _ = _
        rw [valV_neg (fun e => z (Sum.inr.inj e))]
        exact dk_look nd.2 h
structure Nr (H0 Hd H : Hp) (a : Addr) (as : List (Str × Addr)) (c : Str → List Str) : Prop where
  n0 : H0 a = none
  nd : Hd a = none
  l : ∀ p ∈ as, H0 p.2 = none ∧ Hd p.2 = none ∧ p.2 ≠ a ∧ H p.2 = some (.lst ((c p.1).map V.str))
  kd : (as.map (·.1)).Nodup
  ad : (as.map (·.2)).Nodup
theorem addr_ne {as : List (Str × Addr)} (kd : (as.map (·.2)).Nodup) {p q : Str × Addr} (hp : p ∈ as) (hq : q ∈ as) (h : p.2 = q.2) : p = q := by
  induction as with
  | nil => cases hp
  | cons r t ih =>
    rw [List.map_cons, List.nodup_cons] at kd
    rcases List.mem_cons.mp hp with e | hp'
    · rcases List.mem_cons.mp hq with e2 | hq'
      · rw [e, e2]
      · subst e
        exact absurd (List.mem_map_of_mem (f := (·.2)) hq') (by rw [← h]; exact kd.1)
    · rcases List.mem_cons.mp hq with e2 | hq'
      · subst e2
        exact absurd (List.mem_map_of_mem (f := (·.2)) hp') (by rw [h]; exact kd.1)
      · exact ih kd.2 hp' hq'
theorem Nr.app {H0 Hd H : Hp} {a : Addr} {as : List (Str × Addr)} {c : Str → List Str} (h : Nr H0 Hd H a as c) {x y : Str} {p : Addr} (hp : (x, p) ∈ as) : Nr H0 Hd (upd H p (.lst ((c x ++ [y]).map V.str))) a as (fun n => if n = x then c n ++ [y] else c n) := by
  refine ⟨h.n0, h.nd, fun q hq => ?_, h.kd, h.ad⟩
  obtain ⟨h1, h2, h3, h4⟩ := h.l q hq
  refine ⟨h1, h2, h3, ?_⟩
  by_cases z : q.2 = p
  · have e := addr_ne h.ad hq hp z
    subst e
    rw [upd_same]
    simp
  · rw [upd_ne z, h4]
    have nx : q.1 ≠ x := fun e => by
      obtain ⟨q1, q2⟩ := q
      simp only at e
      subst e
      have i1 := dk_look h.kd hq
      have i2 := dk_look h.kd hp
      rw [i1] at i2
      cases i2
      exact z rfl
    rw [if_neg nx]
theorem Nr.ext {H0 Hd H Hd' H' : Hp} {a : Addr} {as : List (Str × Addr)} {c : Str → List Str} (h : Nr H0 Hd H a as c) (ha : ∃ o, H a = some o) (x : Ext Hd H Hd' H') : Nr H0 Hd' H' a as c := by
  obtain ⟨o, ho⟩ := ha
  refine ⟨h.n0, x.f _ _ h.nd ho, fun q hq => ?_, h.kd, h.ad⟩
  obtain ⟨h1, h2, h3, h4⟩ := h.l q hq
  exact ⟨h1, x.f _ _ h2 h4, h3, x.h _ _ h4⟩
def G.noD : G → Bool
  | .ownD _ _ => false
  | _ => true
theorem En.mutO {K : PySem.W.Frag} {Hd0 H0 Hd H : Hp} {Γ : List G} {σ : L2.St} (e : En K Hd0 H0 Γ σ Hd H) {p : Addr} {o : HO} (n0 : H0 p = none) (nd : Hd p = none) (no : ∀ (i : Nat) (ds : List PyData), Γ[i]? ≠ some (G.own ds)) (nD : Γ.all G.noD = true) : En K Hd0 H0 Γ σ Hd (upd H p o) := by
  refine ⟨e.x.mut n0 nd, e.l, fun i g hg => ?_, e.o⟩
  have q := e.g i g hg
  cases g with
  | own ds => exact absurd hg (no i ds)
  | lck kvs => exact q
  | ownD _ ds => exact nomatch (List.all_eq_true.mp nD _ (List.mem_of_getElem? hg))
  | any => trivial
  | val v => exact q
  | dat d => exact q
/-- near[x].append(y) -/
theorem app_near {K : PySem.W.Frag} {H0 Hd H : Hp} {σ : L2.St} {D : Ends} {a p : Addr} {as : List (Str × Addr)} {c : Str → List Str} {i j k : Nat} {x y : Str} (h : Nr H0 Hd H a as c) (ha : H a = some (.dK (dk as))) (hk : σ[k]? = some (some (.ref a))) (hi : σ[i]? = some (some (.str x))) (hj : σ[j]? = some (some (.str y)))
    (hp : (x, p) ∈ as) (hl : (c x).length < 1000) (q : D.nx σ (upd H p (.lst ((c x ++ [y]).map V.str)))) : tDrop (tBM K "list" rAppend (tDGet (tVar k) (tVar i)) (tCons (tVar j) tNil)) D σ H := by
  obtain ⟨_, _, _, h4⟩ := h.l _ hp
  refine ⟨_, hk, _, hi, a, .ref p, rfl, ?_, tyV_list h4, _, hj, p, _, .str y, rfl, rfl, h4, ?_, ?_⟩
  · rw [← dk_look h.kd hp]
    exact DGet.k (k := Sum.inr x) ha
  · rw [List.length_map]
    exact Nat.lt_of_lt_of_le hl (by decide)
  · rw [List.map_append] at q
    exact q
end DL

namespace DL
open PySem PySem.Spec PyProof.Rows L2
open Evl (Ex)
open RZ
/-! ### the rules with the written part named -/
section
variable (K : PySem.W.Frag) {X : Cx}
theorem ixS (h : X.K = K := by rfl) : IxR X (rIx K) := h ▸ ix_seq
theorem lenS (h : X.K = K := by rfl) : CallR X (.builtin "len") (rLenOf K) := h ▸ call_len_seq
theorem tupS (h : X.K = K := by rfl) : CallR X (.type "tuple") (rTupX K) := tupX K h
theorem listS (h : X.K = K := by rfl) : CallR X (.type "list") (rListOf K) := h ▸ call_list_of
theorem allS (h : X.K = K := by rfl) (hc : X.calm = true := by rfl) : CallR X (.builtin "all") (rAll K) := h ▸ cr_all hc
theorem sortedSS (h : X.K = K := by rfl) : CallR X (.builtin "sorted") (rSortedS K) := h ▸ cr_sortedS
theorem isiS (h : X.K = K := by rfl) : CallR X (.builtin "isinstance") (rIsi K) := h ▸ call_isi
theorem isiTS (h : X.K = K := by rfl) : CallR X (.builtin "isinstance") (rIsiT K) := h ▸ call_isiT
theorem inS (h : X.K = K := by rfl) : OpR X (compareOp .In) (rIn K false) := h ▸ op_in_seq
theorem ninS (h : X.K = K := by rfl) : OpR X (compareOp .NotIn) (rIn K true) := h ▸ op_notIn_seq
theorem eqS (hu : X.A.units + 64 < cLine) (h : X.K = K := by rfl) : OpR X (compareOp .Eq) (rEqD K) := h ▸ op_eqD hu
theorem neS (hu : X.A.units + 64 < cLine) (h : X.K = K := by rfl) : OpR X (compareOp .NotEq) (rNeD K) := h ▸ op_neD hu
theorem slL (h : X.K = K := by rfl) : SlR X (rSlL K) := h ▸ sl_list
theorem slT (h : X.K = K := by rfl) : SlR X (rSlX K) := slX K h
theorem catT (h : X.K = K := by rfl) : OpR X (binaryOp .Add) (rCatX K) := catX K h
theorem repT (h : X.K = K := by rfl) : OpR X (binaryOp .Mult) (rRepT K) := h ▸ op_repT
variable {tl : TE} {ta : TA} {tg l e e2 : Expr}
theorem piList (hl : PE X l tl) (h : X.K = K := by rfl) : PI X tg l (iList K tl) := h ▸ pi_list hl
theorem piTup (hl : PE X l tl) (h : X.K = K := by rfl) : PI X tg l (iTup K tl) := h ▸ pi_tup hl
theorem piSeq (hl : PE X l tl) (h : X.K = K := by rfl) : PI X tg l (iSeq K tl) := h ▸ pi_seq hl
theorem piEnum {p pos tpos : Pos} {elts : List Expr} {kk : Nat} (hg : Gl X "enumerate") (hm : X.mg "enumerate" = none) (ha : PA X [e] ta) (hs : starEach [e] X.env = [(false, eval e X.env)] := by rfl) (h : X.K = K := by rfl) :
    PI X (.Tuple elts kk tpos) (.Call (.Name "enumerate" p) [e] [] pos) (iEnum K ta) := h ▸ pi_enum hg hm ha hs
theorem piZip {p pos tpos : Pos} {elts : List Expr} {kk : Nat} (hg : Gl X "zip") (hm : X.mg "zip" = none) (ha : PA X [e, e2] ta)
    (hs : starEach [e, e2] X.env = (false, eval e X.env) :: starEach [e2] X.env := by rfl) (hpl : (backTo pos (starEach [e2] X.env)).any (·.1) = false := by rfl) (h : X.K = K := by rfl) :
    PI X (.Tuple elts kk tpos) (.Call (.Name "zip" p) [e, e2] [] pos) (iZipA K ta) := h ▸ pi_zipA hg hm ha hs hpl
variable {pos : Pos} {es : List Expr} {k n : Nat} {t : TGs}
theorem pgTup (hc : X.calm = true) (hp : PGs X es t) (hn : (assignEach es X.env).length = n := by rfl) (hst : (assignEach es X.env).findIdx? (·.1) = none := by rfl) (h : X.K = K := by rfl) : PG X (.Tuple es k pos) (gTup K n t) := h ▸ pg_tup hc hp hn hst
theorem pgSeq (hc : X.calm = true) (hp : PGs X es t) (hn : (assignEach es X.env).length = n := by rfl) (hst : (assignEach es X.env).findIdx? (·.1) = none := by rfl) (h : X.K = K := by rfl) : PG X (.Tuple es k pos) (gSeq K n t) := h ▸ pg_seq hc hp hn hst
end
end DL

namespace DL
open PySem PySem.Spec PyProof.Rows L2
open Evl (Ex)
open RZ
theorem lookD_map {F : Str → PyData} {a : Str} : ∀ {ns : List Str}, lookD (ns.map fun n => (.str n, F n)) a = if a ∈ ns then some (F a) else none
  | [] => rfl
  | n :: r => by
    have ih := lookD_map (F := F) (a := a) (ns := r)
    unfold lookD at ih ⊢
    rw [List.map_cons, List.find?_cons]
    by_cases z : n = a
    · subst z
      simp
    · have z' : ¬ a = n := fun q => z q.symm
      simp only [decide_eq_false z]
      rw [ih]
      simp [z']
/-- a text of the row, one of ns -/
def strIn (ns : List Str) : PyData → Bool
  | .str s => decide (s ∈ ns)
  | _ => false
def stepOk (ms : List (Str × Str)) (x y : PyData) : Bool := match x, y with
  | .str a, .str b => decide (b ∈ nearL ms a)
  | _, _ => false
def isWalkB (ns : List Str) (ms : List (Str × Str)) : PyData → Bool
  | .tuple xs => decide (xs.length ≠ 0) && (xs.all (strIn ns) && (xs.zip (xs.drop 1)).all fun p => stepOk ms p.1 p.2)
  | _ => false
def domWalk : List PyData → PyData → Prop := fun ds r => ∃ d ns ms th, ds = [d, th] ∧ ChartIs d ns ms ∧ fine th = true ∧ r = .bool (isWalkB ns ms th)
theorem cutD_from1 (xs : List PyData) : cutD xs (some 1) none = xs.drop 1 := by
  unfold cutD
  rw [HT.sIx_none, show HT.sIx xs.length 0 (some 1) = min 1 xs.length from HT.sIx_nat xs.length 0 1]
  cases xs with
  | nil => rfl
  | cons x r =>
    rw [Nat.min_eq_left (by simp)]
    exact List.take_of_length_le (by simp)
theorem map_bool {f : PyData → Bool} (xs : List PyData) : xs.map (fun x => PyData.bool (f x)) = (xs.map f).map PyData.bool := by
  rw [List.map_map]
  rfl
theorem all_map_id {α : Type} {f : α → Bool} (xs : List α) : (xs.map f).all id = xs.all f := by
  rw [List.all_map]
  rfl
def pairStep (ms : List (Str × Str)) : PyData → PyData
  | .tuple [x, y] => .bool (stepOk ms x y)
  | _ => .none
theorem map_pairStep (ms : List (Str × Str)) (xs ys : List PyData) : (zipD xs ys).map (pairStep ms) = ((xs.zip ys).map fun p => stepOk ms p.1 p.2).map PyData.bool := by
  unfold zipD
  rw [List.map_map, List.map_map]
  rfl
section
variable {K : PySem.W.Frag} {Γ : List G} {d : PyData}
theorem ret_false {b : Bool} (h : b = false) : SD K (tRet (tC (.bl false))) Γ (.rt (.bool b)) := by
  subst h
  exact sd_ret ed_bl
end
end DL

namespace DL
open PySem PySem.Spec PyProof.Rows L2
open Evl (Ex)
open RZ
/-! ### code that draws: the source at p changes, all else stays -/
def hid (p : Addr) (H : Hp) : Hp := fun a => if a = p then none else H a
theorem hid_same {p : Addr} {H : Hp} : hid p H p = none := by unfold hid; rw [if_pos rfl]
theorem hid_ne {p a : Addr} {H : Hp} (h : a ≠ p) : hid p H a = H a := by unfold hid; rw [if_neg h]
theorem hid_ex {p : Addr} {H : Hp} : Ex (hid p H) H := fun a o h => by
  by_cases z : a = p
  · subst z; rw [hid_same] at h; cases h
  · rw [hid_ne z] at h; exact h
theorem hid_mono {p : Addr} {H H' : Hp} (e : Ex H H') : Ex (hid p H) (hid p H') := fun a o h => by
  by_cases z : a = p
  · subst z; rw [hid_same] at h; cases h
  · rw [hid_ne z] at h ⊢; exact e _ _ h
/-- what is known within a def that draws -/
structure EnB (K : PySem.W.Frag) (p : Addr) (Hd0 H0 : Hp) (Γ : List G) (c : Nat) (σ : L2.St) (Hd H : Hp) : Prop where
  en : En K Hd0 H0 Γ σ Hd H
  d : Hd p = none
  z : H0 p = none
  b : ∃ o, H p = some o ∧ BoxO c o
  o : ∀ (i : Nat) (ds : List PyData), Γ[i]? = some (G.own ds) → σ[i]? ≠ some (some (.ref p))
section
variable {K : PySem.W.Frag} {p : Addr} {Hd0 H0 Hd H Hd' H' : Hp} {Γ Δ : List G} {c n m : Nat} {σ : L2.St}
/-- pure steps -/
theorem EnB.ext (e : EnB K p Hd0 H0 Γ c σ Hd H) (x : Ext Hd H Hd' H') : EnB K p Hd0 H0 Γ c σ Hd' H' := by
  obtain ⟨o, ho, hb⟩ := e.b
  exact ⟨e.en.ext x, x.f _ _ e.d ho, e.z, ⟨o, x.h _ _ ho, hb⟩, e.o⟩
theorem EnB.mono (e : EnB K p Hd0 H0 Γ c σ Hd H) (h : c ≤ m) : EnB K p Hd0 H0 Γ m σ Hd H := by
  obtain ⟨o, ho, hb⟩ := e.b
  exact ⟨e.en, e.d, e.z, ⟨o, ho, hb.mono h⟩, e.o⟩
/-- a step that draws -/
theorem EnB.draw (e : EnB K p Hd0 H0 Γ c σ Hd H) (x : Ext Hd (hid p H) Hd' H') (hd : Hd' p = none) (hb : ∃ o, H' p = some o ∧ BoxO m o) : EnB K p Hd0 H0 Γ m σ Hd' H' := by
  refine ⟨⟨⟨e.en.x.d.trans x.d, fun a o h => ?_, x.i, fun a o h1 h2 => ?_⟩, e.en.l, fun i g hg => ?_, e.en.o⟩, hd, e.z, hb, e.o⟩
  · have np : a ≠ p := fun q => by subst q; rw [e.z] at h; cases h
    exact x.h _ _ (by rw [hid_ne np]; exact e.en.x.h _ _ h)
  · have np : a ≠ p := fun q => by subst q; rw [e.z] at h2; cases h2
    exact x.f a o (e.en.x.f a o h1 h2) (by rw [hid_ne np]; exact e.en.x.h _ _ h2)
  · have q := e.en.g i g hg
    cases g with
    | any => trivial
    | val v => exact q
    | dat d =>
      obtain ⟨v, h1, h2⟩ := q
      exact ⟨v, h1, h2.mono x.d⟩
    | own ds =>
      obtain ⟨a, vs, h1, h0, h2, h3, h4⟩ := q
      have np : a ≠ p := fun z => by subst z; exact e.o i ds hg h1
      have h3' : hid p H a = some (.lst vs) := by rw [hid_ne np]; exact h3
      exact ⟨a, vs, h1, h0, x.f _ _ h2 h3', x.h _ _ h3', h4.mono x.d⟩
    | lck kvs =>
      obtain ⟨a, o, u, h1, h2, h3⟩ := q
      exact ⟨a, o, u, h1, x.d _ _ h2, h3.mono x.d⟩
    | ownD _ ds =>
      obtain ⟨a, u, h1, h0, h2, h3, h4⟩ := q
      have np : a ≠ p := fun z => by
        subst z
        obtain ⟨o', ho', hb'⟩ := e.b
        rw [h3] at ho'
        cases ho'
        obtain ⟨_, _, _, eo, _⟩ := hb'
        exact h4.nl eo
      have h3' : hid p H a = some u := by rw [hid_ne np]; exact h3
      exact ⟨a, u, h1, h0, x.f _ _ h2 h3', x.h _ _ h3', h4.mono x.d⟩
theorem ext_hid {o : HO} (e : Ex Hd H) (hd : Hd p = none) : Ext Hd (hid p H) Hd (upd H p o) :=
  ⟨.refl _, fun a u h => by
    have np : a ≠ p := fun q => by subst q; rw [hid_same] at h; cases h
    rw [hid_ne np] at h
    rw [upd_ne np]
    exact h, fun a u h => by
    have np : a ≠ p := fun q => by subst q; rw [hd] at h; cases h
    rw [upd_ne np]
    exact e _ _ h, fun _ _ h _ => h⟩
theorem Ext.hidE (x : Ext Hd H Hd' H') : Ext Hd (hid p H) Hd' H' := ⟨x.d, hid_ex.trans x.h, x.i, fun a o h1 h2 => x.f a o h1 (hid_ex _ _ h2)⟩
theorem Ext.hid2 {B C : Hp} (x : Ext Hd (hid p H) Hd' H') (y : Ext Hd' (hid p H') B C) : Ext Hd (hid p H) B C := by
  refine ⟨x.d.trans y.d, fun a o h => ?_, y.i, fun a o h1 h2 => ?_⟩
  · have np : a ≠ p := fun q => by subst q; rw [hid_same] at h; cases h
    exact y.h _ _ (by rw [hid_ne np]; exact x.h _ _ h)
  · have np : a ≠ p := fun q => by subst q; rw [hid_same] at h2; cases h2
    exact y.f a o (x.f a o h1 h2) (by rw [hid_ne np]; exact x.h _ _ h2)
end
section
variable (K : PySem.W.Frag) (p : Addr)
/-- te draws at most n times and gives some data of which R is true -/
def EB (te : TE) (Γ : List G) (n : Nat) (R : PyData → Prop) : Prop := ∀ Hd0 H0 c σ Hd H, EnB K p Hd0 H0 Γ c σ Hd H → c + n < 2 ^ 60 → ∀ Q : VK, (∀ v r Hd' H', R r → Ext Hd (hid p H) Hd' H' → EnB K p Hd0 H0 Γ (c + n) σ Hd' H' → Dt K Hd' v r → Q v H') → te σ H Q
def EAB (ta : TA) (Γ : List G) (n : Nat) (R : List PyData → Prop) : Prop := ∀ Hd0 H0 c σ Hd H, EnB K p Hd0 H0 Γ c σ Hd H → c + n < 2 ^ 60 → ∀ Q : List V → Hp → Prop, (∀ vs rs Hd' H', R rs → Ext Hd (hid p H) Hd' H' → EnB K p Hd0 H0 Γ (c + n) σ Hd' H' → DtA K Hd' vs rs → Q vs H') → ta σ H Q
def EIB (wi : TI) (Γ : List G) (n : Nat) (R : List PyData → Prop) : Prop := ∀ Hd0 H0 c σ Hd H, EnB K p Hd0 H0 Γ c σ Hd H → c + n < 2 ^ 60 → ∀ S : It → Hp → Prop, (∀ J rs Hd' H', R rs → Ext Hd (hid p H) Hd' H' → EnB K p Hd0 H0 Γ (c + n) σ Hd' H' → ItOk K J Hd' rs → S J H') → wi σ H S
end
section
variable {K : PySem.W.Frag} {p : Addr} {Γ Δ : List G} {n m : Nat} {ta tb te : TE} {d : PyData} {ds : List PyData} {R R1 R2 : PyData → Prop}
theorem EB.le (h : EB K p te Γ n R) (hn : n ≤ m) : EB K p te Γ m R := fun _ _ c σ Hd H e hc Q q =>
  h _ _ c σ Hd H e (by omega) Q fun v r Hd' H' hr x e' dv => q v r Hd' H' hr x (e'.mono (by omega)) dv
theorem EB.imp {R' : PyData → Prop} (h : EB K p te Γ n R) (hi : ∀ r, R r → R' r) : EB K p te Γ n R' := fun _ _ c σ Hd H e hc Q q =>
  h _ _ c σ Hd H e hc Q fun v r Hd' H' hr x e' dv => q v r Hd' H' (hi r hr) x e' dv
theorem ED.b (h : ED K te Γ d) : EB K p te Γ 0 (fun r => r = d) := fun _ _ c σ Hd H e _ Q q =>
  h _ _ σ Hd H e.en Q fun v Hd' H' x dv => q v d Hd' H' rfl x.hidE (e.ext x) dv
theorem eb_op {r : L2.R2} (h1 : EB K p ta Γ n R1) (h2 : EB K p tb Γ m R2) (hr : ∀ x y, R1 x → R2 y → ∃ z, RD K r x y z ∧ R z) : EB K p (tOp r ta tb) Γ (n + m) R := fun _ _ c σ Hd H e hc Q q =>
  h1 _ _ c σ Hd H e (by omega) _ fun v x Hd1 H1 hx x1 e1 d1 => h2 _ _ _ σ Hd1 H1 e1 (by omega) _ fun w y Hd2 H2 hy x2 e2 d2 => by
    obtain ⟨z, hz, rz⟩ := hr x y hx hy
    refine hz Hd2 H2 v w x2.i (d1.mono x2.d) d2 Q fun u Hd3 H3 x3 d3 => q u z Hd3 H3 rz ((x1.hid2 x2).hid2 x3.hidE) ?_ d3
    have := e2.ext x3
    rw [Nat.add_assoc] at this
    exact this
theorem eab_nil : EAB K p tNil Γ 0 (fun rs => rs = []) := fun _ _ c σ Hd H e _ Q q => q [] [] Hd H rfl (Ext.refl e.en.x.i).hidE e .nil
theorem eab_cons {tr : TA} {S : List PyData → Prop} (h : EB K p ta Γ n R) (hr : EAB K p tr Γ m S) : EAB K p (tCons ta tr) Γ (n + m) (fun rs => ∃ r rr, rs = r :: rr ∧ R r ∧ S rr) := fun _ _ c σ Hd H e hc Q q =>
  h _ _ c σ Hd H e (by omega) _ fun v r Hd1 H1 h1 x1 e1 d1 => hr _ _ _ σ Hd1 H1 e1 (by omega) _ fun vs rr Hd2 H2 h2 x2 e2 d2 =>
    q _ _ Hd2 H2 ⟨r, rr, rfl, h1, h2⟩ (x1.hid2 x2) (by have := e2; rw [Nat.add_assoc] at this; exact this) (.cons (d1.mono x2.d) d2)
theorem EAB.imp {ta : TA} {S S' : List PyData → Prop} (h : EAB K p ta Γ n S) (hi : ∀ r, S r → S' r) : EAB K p ta Γ n S' := fun _ _ c σ Hd H e hc Q q =>
  h _ _ c σ Hd H e hc Q fun v r Hd' H' hr x e' dv => q v r Hd' H' (hi r hr) x e' dv
theorem EA.b {ta : TA} (h : EA K ta Γ ds) : EAB K p ta Γ 0 (fun rs => rs = ds) := fun _ _ c σ Hd H e _ Q q =>
  h _ _ σ Hd H e.en Q fun v Hd' H' x dv => q v ds Hd' H' rfl x.hidE (e.ext x) dv
/-- a call of a built-in -/
theorem eb_cb {ta : TA} {r : List V → Hp → VK → Prop} {S : List PyData → Prop} (h : EAB K p ta Γ n S) (hr : ∀ xs, S xs → ∃ z, CD K r xs z ∧ R z) : EB K p (tCB r ta) Γ n R := fun _ _ c σ Hd H e hc Q q =>
  h _ _ c σ Hd H e hc _ fun vs xs Hd1 H1 hx x1 e1 d1 => by
    obtain ⟨z, hz, rz⟩ := hr xs hx
    exact hz Hd1 H1 vs x1.i d1 Q fun u Hd2 H2 x2 d2 => q u z Hd2 H2 rz (x1.hid2 x2.hidE) (e1.ext x2) d2
theorem eb_tup {ta : TA} {S : List PyData → Prop} (h : EAB K p ta Γ n S) (hl : ∀ xs, S xs → xs.length ≤ 100000) : EB K p (tTupX ta) Γ n (fun r => ∃ xs, r = .tuple xs ∧ S xs) := fun _ _ c σ Hd H e hc Q q =>
  h _ _ c σ Hd H e hc _ fun vs xs Hd1 H1 hx x1 e1 d1 => ⟨fits_of (d1.length ▸ hl xs hx), fun a o ha ho => by
    have y : Ext Hd1 H1 (upd Hd1 a (.frz o (.tup vs))) (upd H1 a (.frz o (.tup vs))) := (Ext.refl x1.i).new ha
    exact q _ _ _ _ ⟨xs, rfl, hx⟩ (x1.hid2 y.hidE) (e1.ext y) (.tup (Tp.new ho) (d1.mono (Ex.new (Evl.fresh_back x1.i ha))))⟩
theorem eb_lst {ta : TA} {S : List PyData → Prop} (h : EAB K p ta Γ n S) (hl : ∀ xs, S xs → xs.length ≤ 100000) : EB K p (tLst ta) Γ n (fun r => ∃ xs, r = .list xs ∧ S xs) := fun _ _ c σ Hd H e hc Q q =>
  h _ _ c σ Hd H e hc _ fun vs xs Hd1 H1 hx x1 e1 d1 => ⟨fits_of (d1.length ▸ hl xs hx), fun a ha => by
    have y : Ext Hd1 H1 (upd Hd1 a (.lst vs)) (upd H1 a (.lst vs)) := (Ext.refl x1.i).new ha
    exact q _ _ _ _ ⟨xs, rfl, hx⟩ (x1.hid2 y.hidE) (e1.ext y) (.lst upd_same (d1.mono (Ex.new (Evl.fresh_back x1.i ha))))⟩
/-- a draw -/
theorem eb_take {i : Nat} {top : Int} (hi : Γ[i]? = some (.val (.ref p))) (ht : ED K tb Γ (.int top)) (h1 : 1 ≤ top) (h2 : top < 1073741824) : EB K p (tCall spTake [] E0 (tCons (tVar i) (tCons tb tNil))) Γ 1 (fun r => ∃ k : Int, r = .int k ∧ 0 ≤ k ∧ k < top) := fun _ _ c σ Hd H e hc Q q =>
  ⟨_, e.en.g i _ hi, ht _ _ σ Hd H e.en _ fun v Hd1 H1 x1 d1 => by
    cases d1
    have e1 := e.ext x1
    obtain ⟨o, ho, hb⟩ := e1.b
    refine ⟨p, top, c, o, rfl, h1, h2, ho, hb, by omega, fun r o' hr0 hr1 hb' => ?_⟩
    have x2 := ext_hid (o := o') x1.i e1.d
    exact q _ _ Hd1 _ ⟨r, rfl, hr0, hr1⟩ (x1.hidE.hid2 x2) (e1.draw x2 e1.d ⟨o', upd_same, hb'⟩) (.int r)⟩
theorem eb_takeB {i : Nat} {R1 : PyData → Prop} {b : Int} (hi : Γ[i]? = some (.val (.ref p))) (ht : EB K p tb Γ n R1) (h1 : ∀ r, R1 r → ∃ top : Int, r = .int top ∧ 1 ≤ top ∧ top < 1073741824 ∧ top ≤ b) : EB K p (tCall spTake [] E0 (tCons (tVar i) (tCons tb tNil))) Γ (n + 1) (fun r => ∃ k : Int, r = .int k ∧ 0 ≤ k ∧ k < b) := fun _ _ c σ Hd H e hc Q q =>
  ⟨_, e.en.g i _ hi, ht _ _ c σ Hd H e (by omega) _ fun v r0 Hd1 H1 hr0 x1 e1 d1 => by
    obtain ⟨top, rfl, t1, t2, t3⟩ := h1 r0 hr0
    cases d1
    obtain ⟨o, ho, hb⟩ := e1.b
    refine ⟨p, top, c + n, o, rfl, t1, t2, ho, hb, by omega, fun r o' hr0 hr1 hb' => ?_⟩
    have x2 := ext_hid (o := o') x1.i e1.d
    exact q _ _ Hd1 _ ⟨r, rfl, hr0, by omega⟩ (x1.hid2 x2) (e1.draw x2 e1.d ⟨o', upd_same, hb'⟩) (.int r)⟩
/-- one of a list's items -/
theorem eb_of {i : Nat} (hi : Γ[i]? = some (.val (.ref p))) (ht : ED K tb Γ (.list ds)) (h1 : 1 ≤ ds.length) (h2 : ds.length < 1000000) : EB K p (tCall spOf [] E0 (tCons (tVar i) (tCons tb tNil))) Γ 1 (fun r => r ∈ ds) := fun _ _ c σ Hd H e hc Q q =>
  ⟨_, e.en.g i _ hi, ht _ _ σ Hd H e.en _ fun v Hd1 H1 x1 d1 => by
    cases d1 with
    | @lst a ws _ g1 g2 =>
      have e1 := e.ext x1
      obtain ⟨o, ho, hb⟩ := e1.b
      have hap : a ≠ p := fun z => by
        subst z
        rw [e1.d] at g1
        cases g1
      have hl := g2.length
      refine ⟨p, a, ws, c, o, rfl, x1.i _ _ g1, hap, by omega, by omega, ho, hb, by omega, fun v o' hv hb' => ?_⟩
      obtain ⟨k, hk⟩ := List.getElem?_of_mem hv
      obtain ⟨d, hd, dv⟩ := g2.get hk
      have x2 := ext_hid (o := o') x1.i e1.d
      exact q _ _ Hd1 _ (List.mem_of_getElem? hd) (x1.hidE.hid2 x2) (e1.draw x2 e1.d ⟨o', upd_same, hb'⟩) dv⟩
end
end DL

namespace DL
open PySem PySem.Spec PyProof.Rows L2
open Evl (Ex)
open RZ
section
variable {K : PySem.W.Frag} {p : Addr} {Hd0 H0 Hd H Hd' H' : Hp} {Γ Δ : List G} {c n m : Nat} {σ : L2.St}
theorem EnB.set (e : EnB K p Hd0 H0 Γ c σ Hd H) {i : Nat} {v : V} {d : PyData} (hd : Dt K Hd v d) : EnB K p Hd0 H0 (Γ.set i (.dat d)) c (σ.set i (some v)) Hd H := by
  refine ⟨e.en.set hd, e.d, e.z, e.b, fun j ds hj => ?_⟩
  by_cases z : i = j
  · subst z; exact nomatch get_set_eq hj
  · rw [List.getElem?_set_ne z] at hj ⊢
    exact e.o j ds hj
theorem EnB.weak (e : EnB K p Hd0 H0 Γ c σ Hd H) {i : Nat} : EnB K p Hd0 H0 (Γ.set i .any) c σ Hd H := by
  refine ⟨e.en.weak, e.d, e.z, e.b, fun j ds hj => ?_⟩
  by_cases z : i = j
  · subst z; exact nomatch get_set_eq hj
  · rw [List.getElem?_set_ne z] at hj
    exact e.o j ds hj
theorem EnB.wipe (e : EnB K p Hd0 H0 Γ c σ Hd H) : ∀ vs : List Nat, EnB K p Hd0 H0 (wipeG Γ vs) c (L2.wipe σ vs) Hd H
  | [] => e
  | v :: vs => by
    have h := EnB.wipe e vs
    refine ⟨h.en.forget, h.d, h.z, h.b, fun j ds hj => ?_⟩
    have hj' : ((wipeG Γ vs).set v .any)[j]? = some (G.own ds) := hj
    show ((L2.wipe σ vs).set v none)[j]? ≠ _
    by_cases z : v = j
    · subst z; exact nomatch get_set_eq hj'
    · rw [List.getElem?_set_ne z] at hj' ⊢
      exact h.o j ds hj'
theorem EnB.setOwn (e : EnB K p Hd0 H0 Γ c σ Hd H) {i : Nat} {a : Addr} {ws : List V} {ds : List PyData} (n0 : H0 a = none) (n1 : Hd a = none) (h : H a = some (.lst ws)) (hd : DtA K Hd ws ds) (hp : a ≠ p)
    (new : ∀ (j : Nat) (es : List PyData), Γ[j]? = some (G.own es) → σ[j]? ≠ some (some (V.ref a))) : EnB K p Hd0 H0 (Γ.set i (.own ds)) c (σ.set i (some (.ref a))) Hd H := by
  refine ⟨e.en.setOwn n0 n1 h hd new, e.d, e.z, e.b, fun j es hj => ?_⟩
  by_cases z : i = j
  · subst z
    have hi : i < σ.length := by
      have := (List.getElem?_eq_some_iff.mp hj).1
      rw [← e.en.l]
      simpa using this
    rw [List.getElem?_set_self hi]
    intro q
    exact hp (V.ref.inj (Option.some.inj (Option.some.inj q)))
  · rw [List.getElem?_set_ne z] at hj ⊢
    exact e.o j es hj
/-- an own list is changed -/
theorem EnB.change (e : EnB K p Hd0 H0 Γ c σ Hd H) {i : Nat} {a : Addr} {ds es : List PyData} {ws : List V} (hi : Γ[i]? = some (.own ds)) (hs : σ[i]? = some (some (.ref a))) (hw : DtA K Hd ws es) : EnB K p Hd0 H0 (Γ.set i (.own es)) c σ Hd (upd H a (.lst ws)) := by
  obtain ⟨b, vs, s1, n0, n1, h1, d1⟩ := e.en.own hi
  rw [hs] at s1
  cases s1
  have hap : a ≠ p := fun z => by subst z; exact e.o i ds hi hs
  refine ⟨⟨e.en.x.mut n0 n1, by simp [e.en.l], fun j g hg => ?_, fun j k fs gs w hjk g1 g2 => ?_⟩, e.d, e.z, ?_, fun j fs hj => ?_⟩
  · by_cases z : i = j
    · subst z
      have q := get_set_eq hg
      subst q
      exact ⟨a, ws, hs, n0, n1, upd_same, hw⟩
    · rw [List.getElem?_set_ne z] at hg
      have q := e.en.g j g hg
      cases g with
      | any => trivial
      | val v => exact q
      | dat d => exact q
      | own fs =>
        obtain ⟨b, us, k1, k0, k2, k3, k4⟩ := q
        have nb : b ≠ a := fun zb => by
          subst zb
          exact e.en.o i j ds fs _ z hi hg hs k1
        exact ⟨b, us, k1, k0, k2, by rw [upd_ne nb]; exact k3, k4⟩
      | lck fs => exact q
      | ownD _ fs =>
        obtain ⟨b, u, k1, k0, k2, k3, k4⟩ := q
        have nb : b ≠ a := fun zb => by
          subst zb
          rw [h1] at k3
          cases k3
          exact k4.nl rfl
        exact ⟨b, u, k1, k0, k2, by rw [upd_ne nb]; exact k3, k4⟩
  · have aux : ∀ (m : Nat) (l : List PyData), (Γ.set i (.own es))[m]? = some (G.own l) → ∃ l' : List PyData, Γ[m]? = some (G.own l') := fun m l hm => by
      by_cases z : i = m
      · subst z; exact ⟨_, hi⟩
      · rw [List.getElem?_set_ne z] at hm; exact ⟨_, hm⟩
    obtain ⟨l1, a1⟩ := aux j _ g1
    obtain ⟨l2, a2⟩ := aux k _ g2
    exact e.en.o j k l1 l2 w hjk a1 a2
  · obtain ⟨o, ho, hb⟩ := e.b
    exact ⟨o, by rw [upd_ne hap.symm]; exact ho, hb⟩
  · by_cases z : i = j
    · subst z; exact e.o i ds hi
    · rw [List.getElem?_set_ne z] at hj
      exact e.o j fs hj
end
section
variable (K : PySem.W.Frag) (p : Addr)
def GDB (g : TG) (Γ : List G) (d : PyData) (vs : List Nat) (Δ : List G) : Prop := ∀ Hd0 H0 c σ Hd H v, EnB K p Hd0 H0 Γ c σ Hd H → Dt K Hd v d → ∀ Q : L2.St → Hp → Prop, (∀ σ', EnB K p Hd0 H0 Δ c σ' Hd H → wipe σ' vs = wipe σ vs → Q σ' H) → g v σ H Q
/-- a statement that draws at most n times -/
def SB (ts : TS) (Γ : List G) (n : Nat) (On : List G → Prop) (Or : PyData → Prop) : Prop := ∀ Hd0 H0 c σ Hd H, EnB K p Hd0 H0 Γ c σ Hd H → c + n < 2 ^ 60 → ∀ D : Ends,
  (∀ Δ σ' Hd' H', On Δ → EnB K p Hd0 H0 Δ (c + n) σ' Hd' H' → Ex Hd Hd' → D.nx σ' H') → (∀ r v Hd' H', Or r → Ext Hd0 H0 Hd' H' → Hd' p = none → (∃ o, H' p = some o ∧ BoxO (c + n) o) → Dt K Hd' v r → D.rt v H') → ts D σ H
end
section
variable {K : PySem.W.Frag} {p : Addr} {Γ Δ : List G} {n m l : Nat} {ta tb te : TE} {tt : TT} {d x y : PyData} {ds : List PyData} {R R1 R2 : PyData → Prop} {g : TG} {vs : List Nat} {t u : TS} {On On1 : List G → Prop} {Or : PyData → Prop} {b : Bool}
theorem gdb_name {i : Nat} (h : i ∈ vs) : GDB K p (gName i) Γ d vs (Γ.set i (.dat d)) := fun _ _ c σ Hd H v e hd Q q => q _ (e.set hd) (wipe_set h)
theorem gdb_two {i j : Nat} (hi : i ∈ vs) (hj : j ∈ vs) : GDB K p (gTup K 2 (gCons (gName i) (gCons (gName j) gNil))) Γ (.tuple [x, y]) vs ((Γ.set i (.dat x)).set j (.dat y)) := fun _ _ c σ Hd H v e hd Q q => by
  cases hd with
  | tup h1 h2 =>
    cases h2 with
    | cons g1 h2 => cases h2 with
      | cons g2 h2 =>
        cases h2
        exact ⟨_, _, rfl, ((h1.mono e.en.x.i).sq (K := K)), rfl, _, _, rfl, _, _, rfl, rfl, q _ ((e.set g1).set g2) ((wipe_set hj).trans (wipe_set hi))⟩
theorem SB.le (h : SB K p t Γ n On Or) (hn : n ≤ m) : SB K p t Γ m On Or := fun _ _ c σ Hd H e hc D q1 q2 =>
  h _ _ c σ Hd H e (by omega) D (fun Δ σ' Hd' H' o e' x => q1 Δ σ' Hd' H' o (e'.mono (by omega)) x) fun r v Hd' H' o x y ⟨b, hb, hb2⟩ dv => q2 r v Hd' H' o x y ⟨b, hb, hb2.mono (by omega)⟩ dv
theorem SB.imp {On' : List G → Prop} {Or' : PyData → Prop} (h : SB K p t Γ n On Or) (h1 : ∀ Δ, On Δ → On' Δ) (h2 : ∀ r, Or r → Or' r) : SB K p t Γ n On' Or' := fun _ _ c σ Hd H e hc D q1 q2 =>
  h _ _ c σ Hd H e hc D (fun Δ σ' Hd' H' o => q1 Δ σ' Hd' H' (h1 Δ o)) fun r v Hd' H' o => q2 r v Hd' H' (h2 r o)
theorem sb_seq (h : SB K p t Γ n On1 Or) (k : ∀ Δ, On1 Δ → SB K p u Δ m On Or) : SB K p (tSeq t u) Γ (n + m) On Or := fun _ _ c σ Hd H e hc D q1 q2 =>
  h _ _ c σ Hd H e (by omega) _ (fun Δ σ' Hd' H' o e' x => k Δ o _ _ _ σ' Hd' H' e' (by omega) D (fun Θ σ2 Hd2 H2 o2 e2 x2 => q1 Θ σ2 Hd2 H2 o2 (by have := e2; rw [Nat.add_assoc] at this; exact this) (x.trans x2)) fun r v Hd2 H2 o2 x2 y2 b2 dv => q2 r v Hd2 H2 o2 x2 y2 (by have := b2; rw [Nat.add_assoc] at this; exact this) dv)
    fun r v Hd' H' o x y ⟨b, hb, hb2⟩ dv => q2 r v Hd' H' o x y ⟨b, hb, hb2.mono (by omega)⟩ dv
theorem sb_set {i : Nat} (h : EB K p te Γ n R) : SB K p (tAsg te (gName i)) Γ n (fun Δ => ∃ d, R d ∧ Δ = Γ.set i (.dat d)) Or := fun _ _ c σ Hd H e hc D q1 _ =>
  h _ _ c σ Hd H e hc _ fun v r Hd1 H1 hr x1 e1 d1 => q1 _ _ Hd1 H1 ⟨r, hr, rfl⟩ (e1.set d1) x1.d
theorem sb_ret (h : EB K p te Γ n R) : SB K p (tRet te) Γ n On R := fun _ _ c σ Hd H e hc D _ q2 =>
  h _ _ c σ Hd H e hc _ fun v r Hd1 H1 hr x1 e1 d1 => q2 r v Hd1 H1 hr e1.en.x e1.d e1.b d1
theorem sb_own {i : Nat} (h : EF K te Γ ds) : SB K p (tAsg te (gName i)) Γ 0 (fun Δ => Δ = Γ.set i (.own ds)) Or := fun _ _ c σ Hd H e hc D q1 _ =>
  h _ _ σ Hd H e.en _ fun a ws Hd1 H1 x1 n1 n2 h1 d1 => by
    have e1 := e.ext x1
    have hap : a ≠ p := fun z => by
      subst z
      obtain ⟨o, ho, _⟩ := e.b
      rw [n1] at ho
      cases ho
    refine q1 _ _ Hd1 H1 rfl (e1.setOwn (Evl.fresh_back e.en.x.h n1) n2 h1 d1 hap fun j es hj hs => ?_) x1.d
    obtain ⟨b, vs, g1, _, _, g4, _⟩ := e.en.own hj
    rw [hs] at g1
    cases g1
    rw [n1] at g4
    cases g4
/-- name.append(e) of an own list -/
theorem sb_app {i : Nat} (hi : Γ[i]? = some (.own ds)) (h : EB K p te Γ n R) (hl : ds.length < 100000) : SB K p (tDrop (tBM K "list" rAppend (tVar i) (tCons te tNil))) Γ n (fun Δ => ∃ d, R d ∧ Δ = Γ.set i (.own (ds ++ [d]))) Or := fun _ _ c σ Hd H e hc D q1 _ => by
  obtain ⟨a, ws, s1, n0, n1, h1, d1⟩ := e.en.own hi
  refine ⟨_, s1, tyV_list h1, ?_⟩
  refine h _ _ c σ Hd H e hc _ fun v r Hd1 H1 hr x1 e1 dv => ?_
  obtain ⟨a', ws', s1', m0, m1, g1, t1⟩ := e1.en.own hi
  rw [s1] at s1'
  cases s1'
  exact ⟨a, ws', v, rfl, rfl, g1, Nat.lt_of_lt_of_le (by rw [t1.length]; exact hl) (by decide : 100000 ≤ sizeLine), q1 _ σ Hd1 _ ⟨r, hr, rfl⟩ (e1.change hi s1 (t1.append (.cons dv .nil))) x1.d⟩
theorem sb_if (h : ET K tt Γ b) (h1 : b = true → SB K p t Γ n On Or) (h2 : b = false → SB K p u Γ n On Or) : SB K p (tIfS tt t u) Γ n On Or := fun _ _ c σ Hd H e hc D q1 q2 =>
  h _ _ σ Hd H e.en _ fun Hd1 H1 x1 => by
    cases b with
    | true => exact iteT (h1 rfl _ _ c σ Hd1 H1 (e.ext x1) hc D (fun Δ σ' Hd' H' o e' y => q1 Δ σ' Hd' H' o e' (x1.d.trans y)) q2)
    | false => exact iteF (h2 rfl _ _ c σ Hd1 H1 (e.ext x1) hc D (fun Δ σ' Hd' H' o e' y => q1 Δ σ' Hd' H' o e' (x1.d.trans y)) q2)
theorem sb_next : SB K p tNext Γ 0 (fun Δ => Δ = Γ) Or := fun _ _ c σ Hd H e _ D q1 _ => q1 Γ σ Hd H rfl e (.refl _)
/-- an own list becomes data -/
theorem sb_freeze {i : Nat} (hi : Γ[i]? = some (.own ds)) (h : SB K p t (Γ.set i (.dat (.list ds))) n On Or) : SB K p t Γ n On Or := fun Hd0 H0 c σ Hd H e hc D q1 q2 => by
  obtain ⟨a, ws, s1, n0, n1, h1, d1⟩ := e.en.own hi
  have hap : a ≠ p := fun z => by subst z; exact e.o i ds hi s1
  have xe : Ext Hd0 H0 (upd Hd a (.lst ws)) H := e.en.x.take n0 n1 h1
  have en : En K Hd0 H0 (Γ.set i (.dat (.list ds))) σ (upd Hd a (.lst ws)) H := by
    refine ⟨xe, by simp [e.en.l], fun j g hg => ?_, fun j k fs es w hjk g1 g2 => ?_⟩
    · by_cases z : i = j
      · subst z
        have q := get_set_eq hg
        subst q
        exact ⟨_, s1, .lst upd_same (d1.mono (Ex.new n1))⟩
      · rw [List.getElem?_set_ne z] at hg
        have q := e.en.g j g hg
        cases g with
        | any => trivial
        | val v => exact q
        | dat d => obtain ⟨v, k1, k2⟩ := q; exact ⟨v, k1, k2.mono (Ex.new n1)⟩
        | own es =>
          obtain ⟨b, us, k1, k0, k2, k3, k4⟩ := q
          have nb : b ≠ a := fun zb => by
            subst zb
            exact e.en.o i j ds es _ z hi hg s1 k1
          exact ⟨b, us, k1, k0, by rw [upd_ne nb]; exact k2, k3, k4.mono (Ex.new n1)⟩
        | lck es => obtain ⟨b, o, u, k1, k2, k3⟩ := q; exact ⟨b, o, u, k1, Ex.new n1 _ _ k2, k3.mono (Ex.new n1)⟩
        | ownD _ es =>
          obtain ⟨b, u, k1, k0, k2, k3, k4⟩ := q
          have nb : b ≠ a := fun zb => by
            subst zb
            rw [h1] at k3
            cases k3
            exact k4.nl rfl
          exact ⟨b, u, k1, k0, by rw [upd_ne nb]; exact k2, k3, k4.mono (Ex.new n1)⟩
    · have nj : i ≠ j := fun z => by subst z; exact nomatch get_set_eq g1
      have nk : i ≠ k := fun z => by subst z; exact nomatch get_set_eq g2
      rw [List.getElem?_set_ne nj] at g1
      rw [List.getElem?_set_ne nk] at g2
      exact e.en.o j k fs es w hjk g1 g2
  refine h Hd0 H0 c σ _ H ⟨en, by rw [upd_ne hap.symm]; exact e.d, e.z, e.b, fun j fs hj => ?_⟩ hc D (fun Δ σ' Hd' H' o e' x => q1 Δ σ' Hd' H' o e' ((Ex.new n1).trans x)) q2
  by_cases z : i = j
  · subst z; exact nomatch get_set_eq hj
  · rw [List.getElem?_set_ne z] at hj
    exact e.o j fs hj
theorem EI.bb {wi : TI} (h : EI K wi Γ ds) : EIB K p wi Γ 0 (fun rs => rs = ds) := fun _ _ c σ Hd H e _ S q =>
  h _ _ σ Hd H e.en S fun J Hd1 H1 x1 ok => q J ds Hd1 H1 rfl x1.hidE (e.ext x1) ok
theorem eib_rng1 {ta : TA} {S : List PyData → Prop} {M : Nat} (h : EAB K p ta Γ n S) (hn : ∀ xs, S xs → ∃ k : Int, xs = [.int k] ∧ 0 ≤ k ∧ k ≤ M) (hM : M ≤ 100000) : EIB K p (iRng1 ta) Γ n (fun rs => rs.length ≤ M ∧ ∀ r ∈ rs, ∃ j : Nat, r = .int (j : Int)) := fun _ _ c σ Hd H e hc S' q =>
  h _ _ c σ Hd H e hc _ fun vs xs Hd1 H1 hx x1 e1 d1 => by
    obtain ⟨k, rfl, k0, k1⟩ := hn xs hx
    cases d1 with
    | cons d1 d2 =>
      cases d1
      cases d2
      refine ⟨k, rfl, by omega, by omega, q _ ((List.range k.toNat).map fun (j : Nat) => .int (j : Int)) Hd1 H1 ⟨by rw [List.length_map, List.length_range]; omega, fun r hr => ?_⟩ x1 e1 fun Hd' H' e1 e2 => ⟨by simp [Itr]; omega, fun i d hd => ?_⟩⟩
      · obtain ⟨j, _, rfl⟩ := List.mem_map.mp hr
        exact ⟨j, rfl⟩
      · rw [List.getElem?_map] at hd
        by_cases hi : i < k.toNat
        · rw [List.getElem?_range hi] at hd
          cases hd
          refine ⟨hi, fun x H'' ⟨eH, ex⟩ => ?_⟩
          subst eH ex
          refine ⟨Hd', .refl e2, ?_⟩
          rw [Int.zero_add]
          exact .int _
        · rw [List.getElem?_eq_none (by simpa using hi)] at hd
          cases hd
/-- a loop: Inv by the turn -/
theorem sb_for {wi : TI} {S : List PyData → Prop} {M : Nat} (Inv : Nat → List G → Prop) (hi : EIB K p wi Γ n S) (h0 : Inv 0 Γ)
    (hb : ∀ rs, S rs → rs.length ≤ M ∧ ∀ k r Θ, rs[k]? = some r → Inv k Θ → ∃ Δ vs, GDB K p g Θ r vs Δ ∧ SB K p t Δ m (Inv (k + 1)) Or) : SB K p (tFor wi g t) Γ (n + M * m) (fun Δ => ∃ rs, S rs ∧ Inv rs.length Δ) Or := fun Hd0 H0 c σ Hd H e hc D q1 q2 =>
  hi _ _ c σ Hd H e (by omega) _ fun J rs Hd1 H1 hS x1 e1 ok => by
    obtain ⟨hM, hb⟩ := hb rs hS
    have tot : ∀ k, k ≤ rs.length → c + n + k * m ≤ c + (n + M * m) := fun k hk => by
      have : k * m ≤ M * m := Nat.mul_le_mul_right _ (by omega)
      omega
    refine ⟨fun k j σ' H' => j = rs.length - k ∧ k ≤ rs.length ∧ ∃ Θ Hd', Inv k Θ ∧ Ex Hd1 Hd' ∧ EnB K p Hd0 H0 Θ (c + n + k * m) σ' Hd' H', ⟨rs.length, rfl, Nat.zero_le _, Γ, Hd1, h0, .refl _, by rw [Nat.zero_mul]; exact e1⟩, ?_⟩
    rintro k j σ' H' ⟨rfl, hk, Θ, Hd', inv, xd, en⟩
    obtain ⟨st, go⟩ := ok Hd' H' xd en.en.x.i
    by_cases hlt : k < rs.length
    · have hd : rs[k]? = some rs[k] := by simp [hlt]
      obtain ⟨gi, yl⟩ := go k _ hd
      have em : c + n + k * m + m = c + n + (k + 1) * m := by rw [Nat.succ_mul]; omega
      have t1 := tot (k + 1) hlt
      refine .inr ⟨gi, fun σ'' H'' => ∃ Θ Hd'', Inv (k + 1) Θ ∧ Ex Hd1 Hd'' ∧ EnB K p Hd0 H0 Θ (c + n + (k + 1) * m) σ'' Hd'' H'', fun σ'' H'' w => ⟨rs.length - (k + 1), by omega, rfl, hlt, w⟩, fun x H2 y2 => ?_⟩
      obtain ⟨Hd2, x2, d2⟩ := yl x H2 y2
      obtain ⟨Δ, vs, hg, hs⟩ := hb k _ Θ hd inv
      refine hg _ _ _ σ' Hd2 H2 x (en.ext x2) d2 _ fun σ2 e2 _ => hs _ _ _ σ2 Hd2 H2 e2 (by omega) _ (fun Θ' σ3 Hd3 H3 o3 e3 x3 => ⟨Θ', Hd3, o3, xd.trans (x2.d.trans x3), by rw [← em]; exact e3⟩) fun r v Hd3 H3 o3 x3 y3 ⟨b, hb, hb2⟩ dv => q2 r v Hd3 H3 o3 x3 y3 ⟨b, hb, hb2.mono (by omega)⟩ dv
    · have ek : k = rs.length := by omega
      subst ek
      have t1 := tot rs.length (Nat.le_refl _)
      exact .inl ⟨st, q1 Θ σ' Hd' H' ⟨rs, hS, inv⟩ (en.mono t1) (x1.d.trans xd)⟩
/-- a comprehension without a test -/
theorem eb_lc {wi : TI} {S : List PyData → Prop} {M : Nat} {Re : PyData → PyData → Prop} (hi : EIB K p wi Γ n S)
    (ht : ∀ rs, S rs → rs.length ≤ M ∧ ∀ r ∈ rs, ∃ Δ, GDB K p g (wipeG Γ vs) r vs Δ ∧ EB K p te Δ m (Re r)) (hM : M ≤ 100000) : EB K p (tLc wi g tYes te vs) Γ (n + M * m) (fun r => ∃ rs qs, r = .list qs ∧ S rs ∧ Paired Re rs qs) := fun Hd0 H0 c σ Hd H e hc Q q =>
  hi _ _ c σ Hd H e (by omega) _ fun J rs Hd1 H1 hS x1 e1 ok D hD => by
    obtain ⟨hMl, ht⟩ := ht rs hS
    have nD : H D = none := by
      cases z : H D with
      | none => rfl
      | some o =>
        by_cases zp : D = p
        · subst zp
          obtain ⟨o', ho', _⟩ := e1.b
          rw [hD] at ho'
          cases ho'
        · have := x1.h D o (by rw [hid_ne zp]; exact z)
          rw [hD] at this
          cases this
    have nDp : D ≠ p := fun z => by
      subst z
      obtain ⟨o', ho', _⟩ := e1.b
      rw [hD] at ho'
      cases ho'
    have nD1 : Hd1 D = none := Evl.fresh_back x1.i hD
    have tot : ∀ k, k ≤ rs.length → c + n + k * m ≤ c + (n + M * m) := fun k hk => by
      have : k * m ≤ M * m := Nat.mul_le_mul_right _ (by omega)
      omega
    have mutD : ∀ {k : Nat} {Hd2 G2 : Hp} {o : HO}, EnB K p Hd0 H0 Γ k σ Hd2 G2 → Ext Hd (hid p H) Hd2 G2 → Hd2 D = none → EnB K p Hd0 H0 Γ k σ Hd2 (upd G2 D o) ∧ Ext Hd (hid p H) Hd2 (upd G2 D o) := fun {k Hd2 G2 o} e2 x2 n2 => by
      have hid0 : hid p H D = none := by rw [hid_ne nDp]; exact nD
      have x3 := x2.mut (o := o) hid0 n2
      obtain ⟨bo, hbo, hbb⟩ := e2.b
      exact ⟨e.draw x3 e2.d ⟨bo, by rw [upd_ne nDp.symm]; exact hbo, hbb⟩, x3⟩
    obtain ⟨e10, x10⟩ := mutD (o := .lst []) e1 x1 nD1
    refine ⟨fun i j G => j = rs.length - i ∧ i ≤ rs.length ∧ ∃ Hd2 acc qs, Ex Hd1 Hd2 ∧ Ext Hd (hid p H) Hd2 G ∧ EnB K p Hd0 H0 Γ (c + n + i * m) σ Hd2 G ∧ Hd2 D = none ∧ G D = some (.lst acc) ∧ DtA K Hd2 acc qs ∧ Paired Re (rs.take i) qs,
      ⟨rs.length, rfl, Nat.zero_le _, Hd1, [], [], .refl _, x10, by rw [Nat.zero_mul]; exact e10, nD1, upd_same, .nil, by rw [List.take_zero]; exact .nil⟩, ?_⟩
    rintro i j G ⟨rfl, hle, Hd2, acc, qs, xd, x2, e2, n2, a2, t2, p2⟩
    obtain ⟨st, go⟩ := ok Hd2 G xd x2.i
    by_cases hlt : i < rs.length
    · have hd : rs[i]? = some rs[i] := by simp [hlt]
      obtain ⟨gi, yl⟩ := go i _ hd
      have em : c + n + i * m + m = c + n + (i + 1) * m := by rw [Nat.succ_mul]; omega
      have t1 := tot (i + 1) hlt
      refine .inr ⟨gi, fun G' => ∃ Hd2 acc qs, Ex Hd1 Hd2 ∧ Ext Hd (hid p H) Hd2 G' ∧ EnB K p Hd0 H0 Γ (c + n + (i + 1) * m) σ Hd2 G' ∧ Hd2 D = none ∧ G' D = some (.lst acc) ∧ DtA K Hd2 acc qs ∧ Paired Re (rs.take (i + 1)) qs, fun G' w => ⟨rs.length - (i + 1), by omega, rfl, hlt, w⟩, fun x H3 y3 => ?_⟩
      obtain ⟨Hd3, x3, d3⟩ := yl x H3 y3
      obtain ⟨Δ, hg, hte⟩ := ht _ (List.getElem_mem hlt)
      have n3 : Hd3 D = none := x3.f _ _ n2 a2
      have a3 := x3.h _ _ a2
      refine hg _ _ _ _ Hd3 H3 x ((e2.ext x3).wipe vs) d3 _ fun σ2 e3 w2 => ⟨w2.trans (wipe_wipe fun _ z => z), ?_⟩
      show te σ2 H3 _
      refine hte _ _ _ σ2 Hd3 H3 e3 (by omega) _ fun v r Hd4 H4 hr x4 e4 d4 => ?_
      have a4 : H4 D = some (.lst acc) := x4.h _ _ (by rw [hid_ne nDp]; exact a3)
      have n4 : Hd4 D = none := x4.f _ _ n3 (by rw [hid_ne nDp]; exact a3)
      have l4 : acc.length < sizeLine := by
        have l0 := t2.length
        have l1 := p2.length
        rw [List.length_take] at l1
        have l2 : acc.length < 100000 := by omega
        exact Nat.lt_of_lt_of_le l2 (by decide)
      have xT : Ext Hd (hid p H) Hd4 H4 := (x2.hid2 x3.hidE).hid2 x4
      have eT : EnB K p Hd0 H0 Γ (c + n + (i + 1) * m) σ Hd4 H4 := e.draw xT e4.d (by rw [← em]; exact e4.b)
      obtain ⟨eD, xD⟩ := mutD (o := .lst (acc ++ [v])) eT xT n4
      refine ⟨acc, a4, l4, Hd4, _, qs ++ [r], xd.trans (x3.d.trans x4.d), xD, eD, n4, upd_same, (t2.mono (x3.d.trans x4.d)).append (.cons d4 .nil), ?_⟩
      rw [List.take_add_one, hd]
      exact p2.snoc hr
    · have ei : i = rs.length := by omega
      subst ei
      rw [List.take_length] at p2
      have t1 := tot rs.length (Nat.le_refl _)
      refine .inl ⟨st, ?_⟩
      have hid0 : hid p H D = none := by rw [hid_ne nDp]; exact nD
      have xF := x2.take hid0 n2 a2
      have eF : EnB K p Hd0 H0 Γ (c + (n + M * m)) σ (upd Hd2 D (.lst acc)) G := (e.draw xF (by rw [upd_ne nDp.symm]; exact e2.d) e2.b).mono t1
      exact q (.ref D) (.list qs) _ G ⟨rs, qs, rfl, hS, p2⟩ xF eF (.lst upd_same (t2.mono (Ex.new n2)))
end
end DL

namespace DL
open PySem PySem.Spec PyProof.Rows L2
open Evl (Ex)
open RZ
/-! ### sorted(xs), xs a list of pairs of texts: a new list of the same pairs, in some order -/
def rSortedTS (K : PySem.W.Frag) : List V → Hp → VK → Prop := fun vs H Q => ∃ a xs, vs = [V.ref a] ∧ SqL K H a xs ∧ (∀ x ∈ xs, ∃ t i j, x = V.ref t ∧ Tp H t [.str i, .str j]) ∧
  ∀ (zs : List V) (l : Addr), zs.Perm xs → H l = none → Q (.ref l) (upd H l (.lst zs))
theorem tups_of {h : Heap} {sh : Nat → Bool} : ∀ {vs : List Value}, (∀ v ∈ vs, ∃ f, PyProof.Rows.TupOf h sh v f) → ∃ kinds, PyProof.Rows.TupsOf h sh vs kinds
  | [], _ => ⟨[], .nil⟩
  | v :: vs, hv => by
    obtain ⟨f, hf⟩ := hv v List.mem_cons_self
    obtain ⟨kinds, hfs⟩ := tups_of fun u hu => hv u (List.mem_cons_of_mem _ hu)
    exact ⟨f :: kinds, .cons hf hfs⟩
theorem cr_sortedTS {X : Cx} (K : PySem.W.Frag) (hK : X.K = K := by rfl) : CallR X (.builtin "sorted") (rSortedTS K) := by
  subst hK
  intro pins s σ H vs us Q I r hq
  obtain ⟨a, xs, rfl, hs, allp, q⟩ := hq
  obtain ⟨raw, rel, isl, room⟩ := I.list hs
  obtain ⟨u, rfl, same⟩ := vals1 r
  have eu : u = Value.ref a := same
  subst eu
  obtain ⟨e1, e2⟩ := refs_back rel fun x m => by
    obtain ⟨t, _, _, e, _⟩ := allp x m
    exact ⟨t, e⟩
  have tk : ∀ v ∈ raw, ∃ t o x1 t1 x2 t2 n, v = Value.ref t ∧ s.heap.get? t = some o ∧ o.cls = .type "tuple" ∧ o.data = .seq #[.str x1 t1, .str x2 t2] n := fun v hv => by
    obtain ⟨t, rfl⟩ := e2 v hv
    have mem : V.ref t ∈ xs := by rw [e1]; exact List.mem_map.mpr ⟨_, hv, rfl⟩
    obtain ⟨t', i, j, e, ht⟩ := allp _ mem
    cases e
    obtain ⟨o0, ht, _⟩ := ht
    obtain ⟨_, _, its2, r2, o, ho, hc, n, hd⟩ := I.hok _ _ ht
    obtain ⟨u1, u2, rfl, ri, rj⟩ := vals2 r2
    obtain ⟨t1, rfl⟩ := ri
    obtain ⟨t2, rfl⟩ := rj
    exact ⟨t, o, i, t1, j, t2, n, rfl, ho, hc, hd⟩
  obtain ⟨kinds, hfs⟩ := tups_of (h := s.heap) (sh := fun _ => true) (vs := raw) fun v hv => by
    obtain ⟨t, o, x1, t1, x2, t2, n, rfl, ho, hc, hd⟩ := tk v hv
    exact ⟨.str x1 t1, t, o, _, n, rfl, ho, hc, hd, rfl, fun z => (nomatch z), fun _ => ⟨x1, t1, rfl⟩⟩
  refine PyProof.Rows.G.sorted_tups (shape := fun _ => true) (fs := kinds) isl.isList hfs (fun v hv => ?_) (by rw [← rel.length]; exact room) fun st' hp _ _ => ?_
  · obtain ⟨t, o, x1, t1, x2, t2, n, rfl, ho, hc, hd⟩ := tk v hv
    obtain ⟨oc, od, dt, sl⟩ := o
    simp only at hc hd
    subst hc hd
    refine ⟨[Sum.inr x1.cps.toList, Sum.inr x2.cps.toList], ?_⟩
    unfold PyProof.Rows.G.tupKeyC
    rw [if_pos (by simp [PyProof.Rows.G.isTupObj, ho])]
    unfold PyProof.Rows.tupKey
    simp only [ho]
    rfl
  · have hperm : ((arrOf st').map (·.2)).toList.Perm raw := by
      have h1 : (arrOf st').toList.Perm (raw.zip raw) := by
        have := Array.perm_iff_toList_perm.mp hp
        rw [pairsOf_toList] at this
        exact this
      have h2 := h1.map (·.2)
      have h3 : (raw.zip raw).map (·.2) = raw := by
        rw [List.map_snd_zip (by omega)]
      rw [h3] at h2
      simpa using h2
    have h3 : ∀ u ∈ ((arrOf st').map (·.2)).toList, ∃ a, u = Value.ref a := fun u hu => e2 u (hperm.mem_iff.mp hu)
    obtain ⟨ep, he'⟩ := PyProof.Rows.sortedAll_at s.heap raw ((arrOf st').map (·.2))
    refine ⟨.ref (s.heap.objs.size + 1), upd H (s.heap.objs.size + 1) (.lst (((arrOf st').map (·.2)).toList.map backV)), I.laid (t' := s.toks) (fun _ _ => PyProof.Rows.sortedAll_old) (Nat.le_succ _) ⟨?_, ((arrOf st').map (·.2)).toList, ep, vals_back h3, by rw [Array.toArray_toList]; exact he'⟩, rfl, q _ _ ?_ (I.hok.fresh (Nat.le_succ _))⟩
    · rw [List.length_map, hperm.length_eq, ← rel.length]
      exact room
    · rw [e1]
      exact hperm.map backV
end DL

namespace DL
open PySem PySem.Spec PyProof.Rows L2
open Evl (Ex)
open RZ
/-! ### the same with lists for tuples -/
mutual
def softD : PyData → PyData
  | .list xs => .list (softA xs)
  | .tuple xs => .list (softA xs)
  | .none => .none
  | .bool b => .bool b
  | .int i => .int i
  | .str s => .str s
  | .dict kvs => .dict kvs
def softA : List PyData → List PyData
  | [] => []
  | x :: xs => softD x :: softA xs
end
theorem softA_map : ∀ xs : List PyData, softA xs = xs.map softD
  | [] => rfl
  | x :: xs => by
    show softD x :: softA xs = _
    rw [softA_map xs]
    rfl
def domLists (n : Nat) : List PyData → PyData → Prop := fun ds r => ∃ d, ds = [d] ∧ d.depth < n ∧ fine d = true ∧ r = softD d
/-! ### CHARTS as the law draws them -/
def pairM (p : Str × Str) : PyData := .tuple [.str p.1, .str p.2]
def stD (p : Str × PyData) : PyData := .tuple [.str p.1, p.2]
def webD (wide : List PyData) (nws : List (Str × PyData)) (ms : List (Str × Str)) : PyData := .tuple [.tuple wide, .tuple (nws.map stD), .tuple (ms.map pairM)]
structure WebOk (wide : List PyData) (nws : List (Str × PyData)) (ms : List (Str × Str)) : Prop where
  nd : (nws.map (·.1)).Nodup
  mem : ∀ p ∈ ms, p.1 ∈ nws.map (·.1) ∧ p.2 ∈ nws.map (·.1)
  nl : nws.length ≤ 1000
  n1 : 1 ≤ nws.length
  ml : ms.length ≤ 31
  ok : ∀ p ∈ nws, PyData.strOk p.1 = true
  fn : fine (webD wide nws ms) = true
  dp : (webD wide nws ms).depth ≤ 5
theorem paired_map {α β γ : Type} {F : β → γ → Prop} {f : α → β} {g : α → γ} (h : ∀ a, F (f a) (g a)) : ∀ l : List α, Paired F (l.map f) (l.map g)
  | [] => .nil
  | a :: l => .cons (h a) (paired_map h l)
theorem WebOk.chart {wide : List PyData} {nws : List (Str × PyData)} {ms : List (Str × Str)} (h : WebOk wide nws ms) : ChartIs (webD wide nws ms) (nws.map (·.1)) ms := by
  refine ⟨⟨_, _, _, _, _, rfl, rfl, rfl, paired_map (fun p => ⟨p.2, rfl⟩) nws, ?_⟩, h.nd, h.mem, by rw [List.length_map]; exact h.nl, h.ml⟩
  have := paired_map (F := fun e (p : Str × Str) => seqOf e = some [.str p.1, .str p.2]) (f := pairM) (g := fun p => p) (fun p => rfl) ms
  rw [List.map_id'] at this
  exact this
theorem soft_web (wide : List PyData) (nws : List (Str × PyData)) (ms : List (Str × Str)) :
    softD (webD wide nws ms) = .list [.list (wide.map softD), .list (nws.map fun p => .list [.str p.1, softD p.2]), .list (ms.map fun p => .list [.str p.1, .str p.2])] := by
  show PyData.list [.list (softA wide), .list (softA (nws.map stD)), .list (softA (ms.map pairM))] = _
  rw [softA_map, softA_map, softA_map, List.map_map, List.map_map]
  rfl
theorem WebOk.soft {wide : List PyData} {nws : List (Str × PyData)} {ms : List (Str × Str)} (h : WebOk wide nws ms) : ChartIs (softD (webD wide nws ms)) (nws.map (·.1)) ms := by
  rw [soft_web]
  refine ⟨⟨_, _, _, _, _, rfl, rfl, rfl, paired_map (fun p => ⟨softD p.2, rfl⟩) nws, ?_⟩, h.nd, h.mem, by rw [List.length_map]; exact h.nl, h.ml⟩
  have := paired_map (F := fun e (p : Str × Str) => seqOf e = some [.str p.1, .str p.2]) (f := fun p => .list [.str p.1, .str p.2]) (g := fun p => p) (fun p => rfl) ms
  rw [List.map_id'] at this
  exact this
/-! ### the law's own neighbours, its own look at walks -/
def nearW (ms : List (Str × Str)) (t : Str) : List Str := (ms.filter fun p => decide (p.1 = t)).map (·.2) ++ (ms.filter fun p => decide (p.2 = t)).map (·.1)
theorem nearW_mem {ms : List (Str × Str)} {n x : Str} : x ∈ nearW ms n ↔ (n, x) ∈ ms ∨ (x, n) ∈ ms := by
  unfold nearW
  rw [List.mem_append, List.mem_map, List.mem_map]
  constructor
  · rintro (⟨⟨a, b⟩, h, rfl⟩ | ⟨⟨a, b⟩, h, rfl⟩)
    · obtain ⟨h1, h2⟩ := List.mem_filter.mp h
      have := of_decide_eq_true h2
      simp only at this
      subst this
      exact .inl h1
    · obtain ⟨h1, h2⟩ := List.mem_filter.mp h
      have := of_decide_eq_true h2
      simp only at this
      subst this
      exact .inr h1
  · rintro (h | h)
    · exact .inl ⟨_, List.mem_filter.mpr ⟨h, decide_eq_true rfl⟩, rfl⟩
    · exact .inr ⟨_, List.mem_filter.mpr ⟨h, decide_eq_true rfl⟩, rfl⟩
theorem nearW_len (ms : List (Str × Str)) (t : Str) : (nearW ms t).length ≤ 2 * ms.length := by
  unfold nearW
  rw [List.length_append, List.length_map, List.length_map]
  have := List.length_filter_le (fun p : Str × Str => decide (p.1 = t)) ms
  have := List.length_filter_le (fun p : Str × Str => decide (p.2 = t)) ms
  omega
def domNearW : List PyData → PyData → Prop := fun ds r => ∃ wide nws ms t, ds = [webD wide nws ms, .str t] ∧ WebOk wide nws ms ∧ PyData.strOk t = true ∧ r = .list ((sortS (nearW ms t)).map PyData.str)
def domTags : List PyData → PyData → Prop := fun ds r => ∃ wide nws ms, ds = [webD wide nws ms] ∧ WebOk wide nws ms ∧ r = .list ((nws.map (·.1)).map PyData.str)
def domPath : List PyData → PyData → Prop := fun ds r => ∃ wide nws ms th, ds = [webD wide nws ms, th] ∧ WebOk wide nws ms ∧ fine th = true ∧ r = .bool (isWalkB (nws.map (·.1)) ms th)
def fstIs (t : Str) : PyData → Bool
  | .tuple [.str a, _] => decide (a = t)
  | _ => false
def sndIs (t : Str) : PyData → Bool
  | .tuple [_, .str b] => decide (b = t)
  | _ => false
def fstD : PyData → PyData
  | .tuple [x, _] => x
  | _ => .none
def sndD : PyData → PyData
  | .tuple [_, y] => y
  | _ => .none
theorem found_eq (ms : List (Str × Str)) (t : Str) : ((ms.map pairM).filter (fstIs t)).map sndD = ((ms.filter fun p => decide (p.1 = t)).map (·.2)).map PyData.str := by
  rw [List.filter_map, List.map_map, List.map_map]
  rfl
theorem found_eq2 (ms : List (Str × Str)) (t : Str) : ((ms.map pairM).filter (sndIs t)).map fstD = ((ms.filter fun p => decide (p.2 = t)).map (·.1)).map PyData.str := by
  rw [List.filter_map, List.map_map, List.map_map]
  rfl
theorem WebOk.str {wide : List PyData} {nws : List (Str × PyData)} {ms : List (Str × Str)} (h : WebOk wide nws ms) {s : Str} (hs : s ∈ nws.map (·.1)) : PyData.strOk s = true := by
  obtain ⟨p, hp, rfl⟩ := List.mem_map.mp hs
  exact h.ok p hp
section
variable {K : PySem.W.Frag} {Γ : List G} {te : TE} {xs : List PyData}
theorem fine_str {s : Str} (h : PyData.strOk s = true) : SeqAt.shaped (.str s) = true := by
  unfold SeqAt.shaped
  simp [PyData.canLay0, PyData.depth, h]
theorem rd_eqS {a b : Str} (h1 : PyData.strOk a = true) (h2 : PyData.strOk b = true) : RD K (rEqD K) (.str a) (.str b) (.bool (decide (a = b))) := by
  have h := rd_eqD (K := K) (x := .str a) (y := .str b) (fine_str h1) (fine_str h2)
  have e : PyData.eqv (.str a) (.str b) = decide (a = b) := by simp only [PyData.eqv]; rfl
  rw [e] at h
  exact h
theorem canLay_all : ∀ {xs : List PyData}, (∀ x ∈ xs, fine x = true ∧ x.depth ≤ 63) → PyData.canLayAll0 xs = true ∧ PyData.depthAll xs ≤ 63 ∧ shortA xs = true
  | [], _ => ⟨rfl, by simp [PyData.depthAll], rfl⟩
  | x :: xs, h => by
    obtain ⟨a, b, c⟩ := canLay_all fun y hy => h y (List.mem_cons_of_mem _ hy)
    obtain ⟨f, d⟩ := h x List.mem_cons_self
    obtain ⟨f1, f2⟩ := Bool.and_eq_true_iff.mp f
    refine ⟨?_, ?_, ?_⟩
    · simp only [PyData.canLayAll0, Bool.and_eq_true]
      exact ⟨SeqAt.canLay_of_shaped f1, a⟩
    · simp only [PyData.depthAll]; omega
    · simp only [shortA, Bool.and_eq_true]
      exact ⟨f2, c⟩
theorem fine_mk_list {xs : List PyData} (hl : xs.length ≤ 100000) (h : ∀ x ∈ xs, fine x = true ∧ x.depth ≤ 63) : fine (.list xs) = true := by
  obtain ⟨a, b, c⟩ := canLay_all h
  unfold fine SeqAt.shaped
  simp only [PyData.canLay0, PyData.depth, shortD, Bool.and_eq_true, decide_eq_true_eq]
  exact ⟨⟨a, decide_eq_true (by omega)⟩, hl, c⟩
theorem fine_mk_tup {xs : List PyData} (hl : xs.length ≤ 100000) (h : ∀ x ∈ xs, fine x = true ∧ x.depth ≤ 63) : fine (.tuple xs) = true := by
  obtain ⟨a, b, c⟩ := canLay_all h
  unfold fine SeqAt.shaped
  simp only [PyData.canLay0, PyData.depth, shortD, Bool.and_eq_true, decide_eq_true_eq]
  exact ⟨⟨a, decide_eq_true (by omega)⟩, hl, c⟩
theorem depth_list {xs : List PyData} {n : Nat} (h : ∀ x ∈ xs, x.depth ≤ n) : (PyData.list xs).depth ≤ n + 1 := by
  have : PyData.depthAll xs ≤ n := by
    induction xs with
    | nil => simp [PyData.depthAll]
    | cons x r ih =>
      simp only [PyData.depthAll]
      have := h x List.mem_cons_self
      have := ih fun y hy => h y (List.mem_cons_of_mem _ hy)
      omega
  simp only [PyData.depth]
  omega
theorem depth_tup {xs : List PyData} {n : Nat} (h : ∀ x ∈ xs, x.depth ≤ n) : (PyData.tuple xs).depth ≤ n + 1 := by
  have := depth_list h
  simp only [PyData.depth] at this ⊢
  exact this
theorem fine_depth {d : PyData} (h : fine d = true) : d.depth ≤ 64 := SeqAt.depth_of_shaped (fine_shaped h)
theorem fine_atom_str {s : Str} (h : PyData.strOk s = true) : fine (.str s) = true := by
  unfold fine
  rw [fine_str h]
  rfl
/-- x == [], x != [] of a list -/
theorem rd_eqNil (h : SeqAt.shaped (.list xs) = true) : RD K (rEqD K) (.list xs) (.list []) (.bool xs.isEmpty) := by
  have q := rd_eqD (K := K) (x := .list xs) (y := .list []) h rfl
  have e : PyData.eqv (.list xs) (.list []) = xs.isEmpty := by cases xs <;> simp [PyData.eqv, PyData.eqvAll]
  rw [e] at q
  exact q
theorem rd_neNil (h : SeqAt.shaped (.list xs) = true) : RD K (rNeD K) (.list xs) (.list []) (.bool (!xs.isEmpty)) := by
  have q := rd_neD (K := K) (x := .list xs) (y := .list []) h rfl
  have e : PyData.eqv (.list xs) (.list []) = xs.isEmpty := by cases xs <;> simp [PyData.eqv, PyData.eqvAll]
  rw [e] at q
  exact q
end
theorem filter_empty {α : Type} {p : α → Bool} {xs : List α} : (xs.filter p).isEmpty = !xs.any p := by
  induction xs with
  | nil => rfl
  | cons x r ih =>
    rw [List.filter_cons, List.any_cons]
    by_cases h : p x = true
    · rw [if_pos h, h]; rfl
    · rw [if_neg h, ih]
      simp [h]
/-- the range form of a walk's steps -/
def badK (ms : List (Str × Str)) (xs : List PyData) : PyData → Bool
  | .int k => match xs[k.toNat]?, xs[k.toNat + 1]? with
    | some a, some b => !stepOk ms a b
    | _, _ => false
  | _ => false
theorem range_zip (ms : List (Str × Str)) (xs : List PyData) : ((List.range (xs.length - 1)).map fun (k : Nat) => PyData.int (k : Int)).any (badK ms xs) = !((xs.zip (xs.drop 1)).all fun p => stepOk ms p.1 p.2) := by
  rw [List.any_eq_not_all_not]
  congr 1
  rw [Bool.eq_iff_iff, List.all_eq_true, List.all_eq_true]
  constructor
  · rintro h ⟨a, b⟩ hm
    obtain ⟨k, hk⟩ := List.getElem?_of_mem hm
    rw [List.getElem?_zip_eq_some] at hk
    obtain ⟨h1, h2⟩ := hk
    simp only at h1 h2
    rw [List.getElem?_drop] at h2
    have hl := (List.getElem?_eq_some_iff.mp h2).1
    have := h (.int (k : Int)) (List.mem_map.mpr ⟨k, List.mem_range.mpr (by omega), rfl⟩)
    have e : k + 1 = 1 + k := by omega
    simp only [badK, Int.toNat_natCast, e, h1, h2, Bool.not_not] at this
    exact this
  · rintro h x hx
    obtain ⟨k, hk, rfl⟩ := List.mem_map.mp hx
    have hk' := List.mem_range.mp hk
    have g1 : xs[k]? = some xs[k] := by simp
    have g2 : xs[k + 1]? = some xs[k + 1] := by simp
    have := h (xs[k], xs[k + 1]) (List.mem_iff_getElem?.mpr ⟨k, by rw [List.getElem?_zip_eq_some]; exact ⟨g1, by rw [List.getElem?_drop, Nat.add_comm]; exact g2⟩⟩)
    simp only [badK, Int.toNat_natCast, g1, g2, Bool.not_not]
    exact this
end DL

namespace DL
open PySem PySem.Spec PyProof.Rows L2
open Evl (Ex)
open RZ
theorem DtA.erase {K : PySem.W.Frag} {H : Hp} {vs : List V} {ds : List PyData} (h : DtA K H vs ds) (k : Nat) : DtA K H (vs.eraseIdx k) (ds.eraseIdx k) := by
  rw [List.eraseIdx_eq_take_drop_succ, List.eraseIdx_eq_take_drop_succ]
  exact (h.take k).append (h.drop (k + 1))
theorem lookup_in {env : Env} {y : Str} : ∀ {names : List (Str × NameKind)}, names.lookup y = some .cell ∨ names.lookup y = some .free →
    (names.map fun (n, k) => if (k == NameKind.free && env.scope.kind == .function && env.kindOf n == some .cell) then (n, NameKind.cell) else (n, k)).lookup y = some .cell ∨ (names.map fun (n, k) => if (k == NameKind.free && env.scope.kind == .function && env.kindOf n == some .cell) then (n, NameKind.cell) else (n, k)).lookup y = some .free
  | [], h => by rcases h with h | h <;> cases h
  | (n, k) :: r, h => by
    have ih := @lookup_in env y r
    rw [List.map_cons]
    cases hx : y == n with
    | true =>
      simp only [List.lookup_cons, hx] at h
      by_cases c : (k == NameKind.free && env.scope.kind == .function && env.kindOf n == some .cell) = true
      · simp only [c, if_true, List.lookup_cons, hx]
        exact .inl trivial
      · simp only [c, List.lookup_cons, hx]
        simpa [List.lookup_cons, hx] using h
    | false =>
      simp only [List.lookup_cons, hx] at h
      by_cases c : (k == NameKind.free && env.scope.kind == .function && env.kindOf n == some .cell) = true
      · simp only [c, if_true, List.lookup_cons, hx]
        exact ih h
      · simp only [c, List.lookup_cons, hx]
        simpa [List.lookup_cons, hx] using ih h
/-- a comprehension in a comprehension -/
theorem blkOk_in {N : List Str} {sc scope : Scope} {cl : List (Str × Addr)} {C : Addr} {env : Env} {own : List (Str × Nat)} (h : blkC N sc scope own = true) : BlkOk N (compEnvC sc cl C env).scope scope own :=
  let b := blkOk_by h
  ⟨b.kind, b.uniq, b.ix, fun y hy e => lookup_in (b.free y hy e), b.own⟩
/-! ### a def that draws: its source first, then data; before: what is asked of the data; after: data and answer -/
def spB (K : PySem.W.Frag) (ar m : Nat) (pre : List PyData → Prop) (dom : List PyData → PyData → Prop) : Sp := fun vs H Q _ => vs.length = ar + 1 ∧ ∃ p c Hd ds o ws, vs = .ref p :: ws ∧ Ex Hd H ∧ Hd p = none ∧ H p = some o ∧ BoxO c o ∧ c + m < 2 ^ 60 ∧ DtA K Hd ws ds ∧ pre ds ∧
  ∀ v r Hd' H', dom ds r → Ext Hd (hid p H) Hd' H' → Hd' p = none → (∃ o, H' p = some o ∧ BoxO (c + m) o) → Dt K Hd' v r → Q v H'
def startB (N : List Str) (p : Addr) (ds : List PyData) : List G := .val (.ref p) :: (ds.map G.dat ++ List.replicate (N.length - 1 - ds.length) .any)
section
variable {K : PySem.W.Frag} {p : Addr} {Γ Δ : List G} {n m l : Nat} {ta tb te : TE} {tt : TT} {d x y : PyData} {ds : List PyData} {R R1 R2 : PyData → Prop} {g : TG} {vs : List Nat} {t u : TS} {On On1 : List G → Prop} {Or : PyData → Prop} {b : Bool}
theorem eb_callB {E : XK} {tr : TA} {i ar : Nat} {S : List PyData → Prop} {pre : List PyData → Prop} {dom : List PyData → PyData → Prop} (hi : Γ[i]? = some (.val (.ref p))) (h : EAB K p tr Γ n S) (hs : ∀ xs, S xs → xs.length = ar ∧ pre xs) :
    EB K p (tCall (spB K ar m pre dom) [] E (tCons (tVar i) tr)) Γ (n + m) (fun r => ∃ xs, S xs ∧ dom xs r) := fun _ _ c σ Hd H e hc Q q =>
  ⟨_, e.en.g i _ hi, h _ _ c σ Hd H e (by omega) _ fun ws xs Hd1 H1 hx x1 e1 d1 => by
    obtain ⟨hl, hp⟩ := hs xs hx
    obtain ⟨o, ho, hb⟩ := e1.b
    refine ⟨by rw [List.append_nil, List.length_cons, d1.length, hl], p, c + n, Hd1, xs, o, ws, List.append_nil _, e1.en.x.i, e1.d, ho, hb, by omega, d1, hp, fun v r Hd' H' hr x2 k2 b2 dv => ?_⟩
    exact q v r Hd' H' ⟨xs, hx, hr⟩ (x1.hid2 x2) (by have := e1.draw x2 k2 b2; rw [Nat.add_assoc] at this; exact this) dv⟩
theorem startB_en {N : List Str} {ws : List V} {c : Nat} {o : HO} {Hd H : Hp} (e : Ex Hd H) (hd : Hd p = none) (ho : H p = some o) (hb : BoxO c o) (h : DtA K Hd ws ds) (hN : 1 ≤ N.length) : EnB K p Hd (hid p H) (startB N p ds) c (L2.start N (.ref p :: ws)) Hd H := by
  have hl := h.length
  have hx : Ext Hd (hid p H) Hd H := ⟨.refl _, hid_ex, e, fun _ _ z _ => z⟩
  have notown : ∀ (i : Nat) (fs : List PyData), (startB N p ds)[i]? ≠ some (G.own fs) := fun i fs h1 => by
    unfold startB at h1
    cases i with
    | zero => cases h1
    | succ i =>
      rw [List.getElem?_cons_succ] at h1
      by_cases hi : i < ds.length
      · rw [List.getElem?_append_left (by simpa using hi), List.getElem?_map, List.getElem?_eq_getElem hi] at h1
        cases h1
      · rw [List.getElem?_append_right (by simpa using hi), List.getElem?_replicate] at h1
        split at h1
        · cases h1
        · cases h1
  refine ⟨⟨hx, ?_, fun i g hg => ?_, fun i j fs es w _ h1 _ _ _ => notown i fs h1⟩, hd, hid_same, ⟨o, ho, hb⟩, fun i fs h1 => absurd h1 (notown i fs)⟩
  · simp [startB, L2.start, hl]; omega
  · unfold startB at hg
    cases i with
    | zero =>
      cases hg
      rfl
    | succ i =>
      rw [List.getElem?_cons_succ] at hg
      by_cases hi : i < ds.length
      · rw [List.getElem?_append_left (by simpa using hi), List.getElem?_map, List.getElem?_eq_getElem hi] at hg
        cases hg
        obtain ⟨v, g1, g2⟩ := h.got (List.getElem?_eq_getElem hi)
        refine ⟨v, ?_, g2⟩
        unfold L2.start
        rw [List.getElem?_append_left (by simp; omega), List.getElem?_map, List.getElem?_cons_succ, g1]
        rfl
      · rw [List.getElem?_append_right (by simpa using hi), List.getElem?_replicate] at hg
        split at hg
        · cases hg; trivial
        · cases hg
theorem run_b {N : List Str} {ws : List V} {c : Nat} {o : HO} {Hd H : Hp} {Q : VK} {dom : List PyData → PyData → Prop} (e : Ex Hd H) (hd : Hd p = none) (ho : H p = some o) (hb : BoxO c o) (hc : c + m < 2 ^ 60) (h : DtA K Hd ws ds) (hN : 1 ≤ N.length)
    (hs : SB K p t (startB N p ds) m (fun _ => False) (dom ds)) (q : ∀ v r Hd' H', dom ds r → Ext Hd (hid p H) Hd' H' → Hd' p = none → (∃ o, H' p = some o ∧ BoxO (c + m) o) → Dt K Hd' v r → Q v H') :
    t { nx := fun _ H' => Q .non H', rt := Q } (L2.start N (.ref p :: ws)) H :=
  hs _ _ _ _ _ _ (startB_en e hd ho hb h hN) hc _ (fun _ _ _ _ z => z.elim) fun r v Hd' H' hr x y b dv => q v r Hd' H' hr x y b dv
/-- a, b = two new lists -/
theorem sb_par {i j : Nat} {xs ys : List PyData} (h1 : EF K ta Γ xs) (h2 : EF K tb Γ ys) : SB K p (tPar i j (tCons ta (tCons tb tNil))) Γ 0 (fun Δ => Δ = (Γ.set i (.own xs)).set j (.own ys)) Or := fun _ _ c σ Hd H e hc D q1 _ =>
  h1 _ _ σ Hd H e.en _ fun a ws Hd1 H1 x1 n1 k1 g1 d1 => h2 _ _ σ Hd1 H1 (e.en.ext x1) _ fun b us Hd2 H2 x2 n2 k2 g2 d2 => by
    have e2 := (e.ext x1).ext x2
    obtain ⟨o, ho, _⟩ := e.b
    have hap : a ≠ p := fun z => by subst z; rw [n1] at ho; cases ho
    have hbp : b ≠ p := fun z => by subst z; rw [x1.h _ _ ho] at n2; cases n2
    have hab : a ≠ b := fun z => by subst z; rw [g1] at n2; cases n2
    have newa : ∀ (j : Nat) (es : List PyData), Γ[j]? = some (G.own es) → σ[j]? ≠ some (some (V.ref a)) := fun j es hj hs => by
      obtain ⟨b, vs, g1, _, _, g4, _⟩ := e.en.own hj
      rw [hs] at g1
      cases g1
      rw [n1] at g4
      cases g4
    have newb : ∀ (j : Nat) (es : List PyData), Γ[j]? = some (G.own es) → σ[j]? ≠ some (some (V.ref b)) := fun j es hj hs => by
      obtain ⟨b, vs, g1, _, _, g4, _⟩ := e.en.own hj
      rw [hs] at g1
      cases g1
      rw [x1.h _ _ g4] at n2
      cases n2
    have ea := e2.setOwn (i := i) (Evl.fresh_back e.en.x.h n1) (x2.f _ _ k1 g1) (x2.h _ _ g1) (d1.mono x2.d) hap newa
    have eb := ea.setOwn (i := j) (Evl.fresh_back e.en.x.h (Evl.fresh_back x1.h n2)) k2 g2 d2 hbp fun l es hl hs => by
      by_cases z : i = l
      · subst z
        have hil : i < σ.length := by
          have := (List.getElem?_eq_some_iff.mp hl).1
          rw [← e2.en.l]
          simpa using this
        rw [List.getElem?_set_self hil] at hs
        exact hab (V.ref.inj (Option.some.inj (Option.some.inj hs)))
      · rw [List.getElem?_set_ne z] at hl hs
        exact newb l es hl hs
    exact ⟨_, _, rfl, q1 _ _ Hd2 H2 rfl eb (x1.d.trans x2.d)⟩
/-- found.append(rest.pop(take(tin, len(rest)))) -/
theorem sb_popapp {i j z : Nat} {rs fs : List PyData} (hij : i ≠ j) (hi : Γ[i]? = some (.own rs)) (hj : Γ[j]? = some (.own fs)) (h0 : Γ[z]? = some (.val (.ref p))) (hn : 1 ≤ rs.length) (hl : rs.length < 1000000) (hf : fs.length < 100000) :
    SB K p (tDrop (tBM K "list" rAppend (tVar j) (tCons (tBM K "list" rPopAt (tVar i) (tCons (tCall spTake [] E0 (tCons (tVar z) (tCons (tCB (rLenOf K) (tCons (tVar i) tNil)) tNil))) tNil)) tNil))) Γ 1 (fun Δ => ∃ k x, rs[k]? = some x ∧ Δ = (Γ.set i (.own (rs.eraseIdx k))).set j (.own (fs ++ [x]))) Or := fun _ _ c σ Hd H e hc D q1 _ => by
  obtain ⟨a, ws, s1, n0, n1, h1, d1⟩ := e.en.own hi
  obtain ⟨b, us, t1, m0, m1, g1, f1⟩ := e.en.own hj
  refine ⟨_, t1, tyV_list g1, ?_⟩
  refine ⟨_, s1, tyV_list h1, ?_⟩
  refine eb_take h0 (ed_lenR (er_own hi)) (by omega) (by omega) _ _ c σ Hd H e hc _ fun v r Hd1 H1 hr x1 e1 dv => ?_
  obtain ⟨k, rfl, k0, k1⟩ := hr
  cases dv
  obtain ⟨a', ws', s1', n0', n1', h1', d1'⟩ := e1.en.own hi
  rw [s1] at s1'
  cases s1'
  have hl' := d1'.length
  obtain ⟨k, rfl⟩ : ∃ q : Nat, k = (q : Int) := ⟨k.toNat, by omega⟩
  obtain ⟨y, hy⟩ : ∃ y, ws'[k]? = some y := ⟨_, List.getElem?_eq_getElem (by omega)⟩
  obtain ⟨q, hm1, hm2, hm3, _, _⟩ := atI_get (atI_nat hy)
  obtain ⟨x, hx, dx⟩ := d1'.get hm2
  have e2 := e1.change hi s1 (d1'.erase q)
  obtain ⟨b', us', t1', _, _, g1', f1'⟩ := e2.en.own (i := j) (by rw [List.getElem?_set_ne hij]; exact hj)
  rw [t1] at t1'
  cases t1'
  refine ⟨a, ws', _, q, y, rfl, rfl, h1', by omega, by omega, hm1, hm2, ?_⟩
  exact ⟨b, us', y, rfl, rfl, g1', Nat.lt_of_lt_of_le (by rw [f1'.length]; exact hf) (by decide : 100000 ≤ sizeLine), q1 _ σ Hd1 _ ⟨q, x, hx, rfl⟩ (e2.change (by rw [List.getElem?_set_ne hij]; exact hj) t1 (f1'.append (.cons dx .nil))) x1.d⟩
/-! ### pure statements among those that draw -/
def noOwn : G → Bool
  | .own _ => false
  | .ownD _ _ => false
  | _ => true
theorem sd_b (h : SD K t Γ (.nx Δ)) (h1 : Γ.all noOwn = true) (h2 : Δ.all noOwn = true) : SB K p t Γ 0 (fun Θ => Θ = Δ) Or := fun Hd0 H0 c σ Hd H e hc D q1 _ => by
  have no : ∀ {Θ : List G}, Θ.all noOwn = true → ∀ (i : Nat) (fs : List PyData), Θ[i]? ≠ some (G.own fs) := fun h i fs z => by
    have := List.all_eq_true.mp h _ (List.mem_of_getElem? z)
    cases this
  have e' : En K Hd H Γ σ Hd H := ⟨.refl e.en.x.i, e.en.l, fun i g hg => by
    have q := e.en.g i g hg
    cases g with
    | any => trivial
    | val v => exact q
    | dat d => exact q
    | own fs => exact absurd hg (no h1 i fs)
    | lck kvs => exact q
    | ownD _ fs => exact (nomatch (List.all_eq_true.mp h1 _ (List.mem_of_getElem? hg))), fun i j fs es w _ k _ _ _ => no h1 i fs k⟩
  refine h Hd H σ Hd H e' D fun σ' Hd' H' f xd => ?_
  obtain ⟨o, ho, hb⟩ := e.b
  refine q1 Δ σ' Hd' H' rfl ⟨⟨e.en.x.trans f.x, f.l, fun i g hg => ?_, fun i j fs es w _ k _ _ _ => no h2 i fs k⟩, f.x.f _ _ e.d ho, e.z, ⟨o, f.x.h _ _ ho, hb⟩, fun i fs k => absurd k (no h2 i fs)⟩ f.x.d
  have q := f.g i g hg
  cases g with
  | any => trivial
  | val v => exact q
  | dat d => exact q
  | own fs => exact absurd hg (no h2 i fs)
  | lck kvs => exact q
  | ownD _ fs => exact nomatch (List.all_eq_true.mp h2 _ (List.mem_of_getElem? hg))
/-- xs[:k], k drawn -/
theorem eb_slTo (h : ED K ta Γ (.list ds)) (hb : EB K p tb Γ n R) (hR : ∀ r, R r → ∃ k : Int, r = .int k) : EB K p (tSl (rSlL K) ta tNoPart (tPart tb)) Γ n (fun r => ∃ k : Int, r = .list (cutD ds none (some k)) ∧ R (.int k)) := fun _ _ c σ Hd H e hc Q q =>
  h _ _ σ Hd H e.en _ fun v Hd1 H1 x1 d1 => hb _ _ c σ Hd1 H1 (e.ext x1) hc _ fun w r Hd2 H2 hr x2 e2 d2 => by
    obtain ⟨k, rfl⟩ := hR r hr
    cases d2
    cases d1 with
    | lst g1 g2 =>
      refine ⟨k, rfl, _, _, rfl, SqL.of (x2.i _ _ (x2.d _ _ g1)), fun a ha => ?_⟩
      have y : ∀ o, Ext Hd2 H2 (upd Hd2 a o) (upd H2 a o) := fun o => (Ext.refl e2.en.x.i).new ha
      exact q _ _ _ _ ⟨k, rfl, hr⟩ ((x1.hidE.hid2 x2).hid2 (y _).hidE) (e2.ext (y _)) (.lst upd_same ((cut_dt (g2.mono x2.d)).mono (Ex.new (Evl.fresh_back x2.i ha))))
theorem cd_tupL : CD K (rTupX K) [.list ds] (.tuple ds) := fun Hd H vs ex hv Q q => by
  cases hv with
  | cons g hv =>
    cases hv
    cases g with
    | @lst a ws _ g1 g2 => exact ⟨a, ws, rfl, .inl ⟨SqL.of (ex _ _ g1), fun l o hl ho => q _ (upd Hd l (.frz o (.tup ws))) _ ((Ext.refl ex).new hl) (.tup (Tp.new ho) (g2.mono (Ex.new (Evl.fresh_back ex hl))))⟩⟩
theorem cutD_take (ds : List PyData) (k : Int) (h : 0 ≤ k) : cutD ds none (some k) = ds.take k.toNat := by
  obtain ⟨m, rfl⟩ : ∃ m : Nat, k = (m : Int) := ⟨k.toNat, by omega⟩
  unfold cutD
  rw [HT.sIx_none, HT.sIx_nat, List.drop_zero, Nat.sub_zero, Int.toNat_natCast]
  by_cases h : m ≤ ds.length
  · rw [Nat.min_eq_left h]
  · rw [Nat.min_eq_right (by omega), List.take_length, List.take_of_length_le (by omega)]
theorem cutD_drop (ds : List PyData) (m : Nat) : cutD ds (some (m : Int)) none = ds.drop m := by
  unfold cutD
  rw [HT.sIx_none, HT.sIx_nat]
  by_cases h2 : m ≤ ds.length
  · rw [Nat.min_eq_left h2, List.take_of_length_le (by rw [List.length_drop]; omega)]
  · rw [Nat.min_eq_right (by omega), List.drop_length, List.drop_of_length_le (by omega), List.take_nil]
theorem dta_perm {H : Hp} {ys xs : List V} (h : ys.Perm xs) : ∀ {ds : List PyData}, DtA K H xs ds → ∃ es, es.Perm ds ∧ DtA K H ys es := by
  induction h with
  | nil => exact fun h => ⟨_, .refl _, h⟩
  | cons v _ ih =>
    intro ds h
    cases h with
    | cons h1 h2 =>
      obtain ⟨es, p1, p2⟩ := ih h2
      exact ⟨_, p1.cons _, .cons h1 p2⟩
  | swap a b l =>
    intro ds h
    cases h with
    | cons h1 h2 => cases h2 with
      | cons h2 h3 => exact ⟨_, .swap _ _ _, .cons h2 (.cons h1 h3)⟩
  | trans _ _ ih1 ih2 =>
    intro ds h
    obtain ⟨es, p1, p2⟩ := ih2 h
    obtain ⟨fs, p3, p4⟩ := ih1 p2
    exact ⟨fs, p3.trans p1, p4⟩
theorem eb_sortedTS (h : ED K te Γ (.list ds)) (hp : ∀ d ∈ ds, ∃ q, d = pairM q) : EB K p (tCB (rSortedTS K) (tCons te tNil)) Γ 0 (fun r => ∃ es, r = .list es ∧ es.Perm ds) := fun _ _ c σ Hd H e hc Q q =>
  h _ _ σ Hd H e.en _ fun v Hd1 H1 x1 d1 => by
    cases d1 with
    | @lst a ws _ g1 g2 =>
      refine ⟨a, ws, rfl, SqL.of (x1.i _ _ g1), fun x hx => ?_, fun ys l hy hl => ?_⟩
      · obtain ⟨k, hk⟩ := List.getElem?_of_mem hx
        obtain ⟨d, hd, dx⟩ := g2.get hk
        obtain ⟨⟨i, j⟩, rfl⟩ := hp d (List.mem_of_getElem? hd)
        cases dx with
        | @tup t _ tvs k1 k2 =>
          have := DtA.ofStrs (xs := [i, j]) k2
          subst this
          exact ⟨t, i, j, rfl, k1.mono x1.i⟩
      · obtain ⟨es, p1, p2⟩ := dta_perm hy g2
        have e1 := e.ext x1
        have y : ∀ o, Ext Hd1 H1 (upd Hd1 l o) (upd H1 l o) := fun o => (Ext.refl x1.i).new hl
        exact q _ _ _ _ ⟨es, rfl, p1⟩ (x1.hidE.hid2 (y _).hidE) (e1.ext (y _)) (.lst upd_same (p2.mono (Ex.new (Evl.fresh_back x1.i hl))))
theorem pairs_of {qs : List (Str × Str)} : ∀ {ys : List PyData}, (∀ y ∈ ys, ∃ q ∈ qs, y = pairM q) → ∃ ms : List (Str × Str), ys = ms.map pairM ∧ ∀ m ∈ ms, m ∈ qs
  | [], _ => ⟨[], rfl, fun _ z => nomatch z⟩
  | y :: ys, h => by
    obtain ⟨ms, h1, h2⟩ := pairs_of fun z hz => h z (List.mem_cons_of_mem _ hz)
    obtain ⟨q, hq, rfl⟩ := h y List.mem_cons_self
    exact ⟨q :: ms, by rw [h1]; rfl, fun m hm => (List.mem_cons.mp hm).elim (fun z => z ▸ hq) (h2 m)⟩
theorem states_of {ns : List Str} : ∀ {ys : List PyData}, Paired (fun r q => ∃ s w, r = .str s ∧ q = .tuple [.str s, w] ∧ fine w = true ∧ w.depth ≤ 1) (ns.map PyData.str) ys → ∃ nws : List (Str × PyData), ys = nws.map stD ∧ nws.map (·.1) = ns ∧ ∀ p ∈ nws, fine p.2 = true ∧ p.2.depth ≤ 1 := by
  induction ns with
  | nil =>
    intro ys h
    cases h
    exact ⟨[], rfl, rfl, fun _ z => nomatch z⟩
  | cons n ns ih =>
    intro ys h
    cases h with
    | cons h1 h2 =>
      obtain ⟨s, w, e, rfl, f1, f2⟩ := h1
      cases e
      obtain ⟨nws, rfl, rfl, h3⟩ := ih h2
      exact ⟨(n, w) :: nws, rfl, rfl, fun m hm => (List.mem_cons.mp hm).elim (fun z => z ▸ ⟨f1, f2⟩) (h3 m)⟩
/-- the pairs of the first k of some texts, each with all behind it -/
def pairsN (ns : List Str) (k : Nat) : List (Str × Str) := (List.range k).flatMap fun j => match ns[j]? with
  | some t => (ns.drop (j + 1)).map fun u => (t, u)
  | none => []
theorem pairsN_succ {ns : List Str} {k : Nat} {t : Str} (h : ns[k]? = some t) : pairsN ns (k + 1) = pairsN ns k ++ (ns.drop (k + 1)).map fun u => (t, u) := by
  unfold pairsN
  rw [List.range_succ, List.flatMap_append]
  simp [h]
theorem pairsN_mem {ns : List Str} {k : Nat} {q : Str × Str} (h : q ∈ pairsN ns k) : q.1 ∈ ns ∧ q.2 ∈ ns := by
  obtain ⟨j, _, hj⟩ := List.mem_flatMap.mp h
  cases z : ns[j]? with
  | none => rw [z] at hj; cases hj
  | some t =>
    rw [z] at hj
    obtain ⟨u, hu, rfl⟩ := List.mem_map.mp hj
    exact ⟨List.mem_of_getElem? z, List.mem_of_mem_drop hu⟩
theorem pairsN_len {ns : List Str} (hn : ns.length ≤ 20) : ∀ k : Nat, (pairsN ns k).length ≤ 20 * k
  | 0 => Nat.le_refl _
  | k + 1 => by
    have ih := pairsN_len hn k
    cases z : ns[k]? with
    | none =>
      have : pairsN ns (k + 1) = pairsN ns k := by
        unfold pairsN
        rw [List.range_succ, List.flatMap_append]
        simp [z]
      rw [this]
      omega
    | some t =>
      rw [pairsN_succ z, List.length_append, List.length_map, List.length_drop]
      omega
end
end DL

namespace DL
open PySem PySem.Spec PyProof.Rows L2
open Evl (Ex)
open RZ
/-! ### a call with names alone -/
structure DfK (P : Program) (w : World) (K : PySem.W.Frag) (mg : Str → Option Value) (base : Heap) (k : Nat) (x : Str) (ps ks : List Str) (g : List Value → List Value → List Value) (gV : List V → List V → List V) (sp : Sp) : Prop where
  ex : ∃ f fd, FnOk P w K mg base CX0 k f fd ps sp ∧ mg x = some (.ref f) ∧ PySem.W.keepIn K (.ref f) = true ∧ KBinds K fd ps ks g gV
section
variable {P : Program} {w : World} {K : PySem.W.Frag} {mg : Str → Option Value} {base : Heap}
theorem Tx.ok2 {x : Str} {ps ks N : List Str} {st : Stmt} {k : Nat} {sp : Sp} {g : List Value → List Value → List Value} {gV : List V → List V → List V} (T : Tx K mg x ps st) (S : FnScope N ps (defScope st)) (len : ∀ vs H Q E, sp vs H Q E → vs.length = ps.length)
    (hkb : ∀ (kV doc pm : Value) (an : Option Addr) (cdv ct : Value) (us ws : List Value), (g us ws).length = ps.length → bindArgs (PySem.W.fnOf x x (defArgs st) (defBody st) (defScope st) .none kV doc pm an cdv ct) ⟨us, ks.zip ws⟩ = pure (ps.zip (g us ws)))
    (hrel : ∀ {vs : List V} {us : List Value} {zs : List V} {ws : List Value}, Vals vs us → Vals zs ws → Vals (gV vs zs) (g us ws))
    (hbody : ∀ (f : Addr) (cdv : Value) (A : Around) (outer : List Env) (s : Shared) (H : Hp) (vs : List V) (Q : VK) (E : XK), Room k (A.deeper (envOfC x (defScope st) s.heap.objs.size f cdv)) → sp vs H Q E →
      ∃ t, PSs (cxOf CX0 P w K mg base N x (defScope st) f cdv A outer s H E).nox (defBody st) t ∧ t { nx := fun _ H' => Q .non H', rt := Q } (L2.start N vs) H) : Df P w K mg base (k + 1) x ps sp ∧ DfK P w K mg base (k + 1) x ps ks g gV sp := by
  obtain ⟨f, fd, F, m, b⟩ := T.ex
  refine ⟨⟨f, fd, F.ok S len (hbody f), m, F.kp, b⟩, ⟨f, fd, F.ok S len (hbody f), m, F.kp, ?_⟩⟩
  obtain ⟨oc, od, kV, doc, pm, an, cdv, ct, osl, rfl, lk, hcd⟩ := F.ex
  exact ⟨fun s us ws _ hl => BindsTo.of_eq (hkb kV doc pm an cdv ct us ws hl), fun r1 r2 => hrel r1 r2⟩
variable {X : Cx} {x : Str} {ps ks : List Str} {sp : Sp} {g : List Value → List Value → List Value} {gV : List V → List V → List V} {p pos : Pos} {kws : List Keyword} {tk : TA} {j k : Nat}
theorem pe_defK0 (D : DfK X.prog X.w X.K X.mg X.base j x ps ks g gV sp) (hr : Room k X.A) (hj : j ≤ k) (hkw : PK X kws tk) (hg : Gl X x := by rfl) (hall : (backToKw pos (keywordEach kws X.env)).all (·.1.isSome) = true := by rfl) (hks : (backToKw pos (keywordEach kws X.env)).filterMap (·.1) = ks := by rfl)
    (hdb : (x == ("__debug__" : Str)) = false := by decide) (hpl : ((backTo pos (starEach [] X.env)).any (·.1) || (backToKw pos (keywordEach kws X.env)).any (·.1.isNone)) = false := by rfl) :
    PE X (.Call (.Name x p) [] kws pos) (tCallK sp gV E0 tNil tk) := by
  obtain ⟨f, fd, F, m, k1, b⟩ := D.ex
  refine ⟨fun pins s σ H Q I h => ?_⟩
  refine wpAny_Call_Name_kw (ld_glob I hg m ?_ hdb)
  refine PySem.W.callWith_KW0 (h₀ := X.base) I.ok.mod.kin k1 hall (thn (hkw.run pos pins s σ H _ I h) fun ws s2 ⟨zs, H2, I2, rz, q2⟩ => ⟨I2.kIn, ?_⟩) hpl
  rw [hks]
  exact run_fnk (us := []) (vs := []) (F.mono hj) hr b pass0 I2 .nil rz q2
end
def swapV {α : Type} : List α → List α → List α
  | [], [a, b] => [b, a]
  | _, _ => []
theorem swap_rel {vs : List V} {us : List Value} {zs : List V} {ws : List Value} (h1 : Vals vs us) (h2 : Vals zs ws) : Vals (swapV vs zs) (swapV us ws) := by
  cases h1 with
  | cons _ _ => exact .nil
  | nil =>
    cases h2 with
    | nil => exact .nil
    | cons a h2 => cases h2 with
      | nil => exact .nil
      | cons b h2 => cases h2 with
        | nil => exact .cons b (.cons a .nil)
        | cons _ _ => exact .nil
section
variable {K : PySem.W.Frag} {p : Addr} {Γ Δ : List G} {n m l : Nat} {ta tb te tk : TE} {tt tu : TT} {d e x y z : PyData} {ds : List PyData} {R R1 R2 : PyData → Prop} {g : TG} {vs : List Nat} {t u : TS} {On On1 : List G → Prop} {Or : PyData → Prop} {b : Bool} {dom : List PyData → PyData → Prop}
theorem ed_callK {E : XK} {tk : TA} (h : EA K tk Γ [y, x]) (hd : dom [x, y] d) : ED K (tCallK (spD K 2 dom) swapV E tNil tk) Γ d := fun _ _ σ Hd H e Q q =>
  h _ _ σ Hd H e _ fun vs Hd1 H1 x1 d1 => by
    cases d1 with
    | cons a d1 => cases d1 with
      | cons c d1 =>
        cases d1
        exact ⟨rfl, Hd1, _, _, x1.i, .cons c (.cons a .nil), hd, fun v Hd' H' x2 dv => q v Hd' H' (x1.trans x2) dv⟩
/-! ### more readings of data -/
theorem ed_ixR {i : Int} (h : ER K te Γ ds) (hk : ED K tk Γ (.int i)) (ha : atI ds i = some z) : ED K (tOp (rIx K) te tk) Γ z := fun _ _ σ Hd H e Q q =>
  h _ _ σ Hd H e _ fun a vs Hd1 H1 x1 h1 d1 => hk _ _ σ Hd1 H1 (e.ext x1) _ fun w Hd2 H2 x2 dk => by
    cases dk
    unfold atI at ha
    cases hj : ixN ds.length i with
    | none => rw [hj] at ha; cases ha
    | some j =>
      rw [hj] at ha
      obtain ⟨u, g1, g2⟩ := d1.got (i := j) ha
      exact .inl ⟨a, vs, i, u, rfl, rfl, SqL.of (x2.h _ _ h1), (by unfold atI; rw [d1.length, hj]; exact g1), q _ Hd2 H2 (x1.trans x2) (g2.mono x2.d)⟩
theorem ed_neg {i : Int} (h : ED K ta Γ (.int i)) : ED K (tUn (rU fun i => .int (-i)) ta) Γ (.int (-i)) := fun _ _ σ Hd H e Q q =>
  h _ _ σ Hd H e _ fun v Hd1 H1 x1 d1 => by
    cases d1
    exact ⟨i, rfl, q _ Hd1 H1 x1 (.int _)⟩
theorem ef_revL (h : ER K te Γ ds) : EF K (tRevL K te) Γ ds.reverse := fun _ _ σ Hd H e Q q =>
  h _ _ σ Hd H e _ fun a vs Hd1 H1 x1 h1 d1 => ⟨a, vs, rfl, SqL.of h1, fun l hl => q l _ Hd1 _ (x1.mut (Evl.fresh_back x1.h hl) (Evl.fresh_back x1.i hl)) (Evl.fresh_back x1.h hl) (Evl.fresh_back x1.i hl) upd_same d1.rev⟩
theorem dta_rep {H : Hp} {vs : List V} (h : DtA K H vs ds) : ∀ k : Nat, DtA K H (List.replicate k vs).flatten (List.replicate k ds).flatten
  | 0 => .nil
  | k + 1 => by
    rw [List.replicate_succ, List.replicate_succ, List.flatten_cons, List.flatten_cons]
    exact h.append (dta_rep h k)
theorem ef_rep {i : Int} (h : ED K ta Γ (.list ds)) (hk : ED K tb Γ (.int i)) (h1 : 0 ≤ i) (h2 : i ≤ 1000) (h3 : ds.length ≤ 100) : EF K (tOp rRep ta tb) Γ (List.replicate i.toNat ds).flatten := fun _ _ σ Hd H e Q q =>
  h _ _ σ Hd H e _ fun v Hd1 H1 x1 d1 => hk _ _ σ Hd1 H1 (e.ext x1) _ fun w Hd2 H2 x2 d2 => by
    cases d2
    cases d1 with
    | @lst a ws _ g1 g2 =>
      have hm : ws.length * i.toNat ≤ 100 * 1000 := Nat.mul_le_mul (by rw [g2.length]; exact h3) (by omega)
      have x12 := x1.trans x2
      exact ⟨a, i, ws, rfl, rfl, x2.h _ _ (x1.i _ _ g1), by omega, by omega, Nat.le_trans hm (by decide), fun l hl => q l _ Hd2 _ (x12.mut (Evl.fresh_back x12.h hl) (Evl.fresh_back x12.i hl)) (Evl.fresh_back x12.h hl) (Evl.fresh_back x12.i hl) upd_same (dta_rep (g2.mono x2.d) _)⟩
/-! ### more statements among those that draw -/
theorem sb_parD {i j : Nat} (h1 : ED K ta Γ x) (h2 : ED K tb Γ y) : SB K p (tPar i j (tCons ta (tCons tb tNil))) Γ 0 (fun Δ => Δ = (Γ.set i (.dat x)).set j (.dat y)) Or := fun _ _ c σ Hd H e hc D q1 _ =>
  h1 _ _ σ Hd H e.en _ fun v Hd1 H1 x1 d1 => h2 _ _ σ Hd1 H1 (e.en.ext x1) _ fun w Hd2 H2 x2 d2 =>
    ⟨_, _, rfl, q1 _ _ Hd2 H2 rfl ((((e.ext x1).ext x2).set (d1.mono x2.d)).set d2) (x1.d.trans x2.d)⟩
theorem sb_ownL {i : Nat} (h : EB K p te Γ n R) : SB K p (tAsg (tLst (tCons te tNil)) (gName i)) Γ n (fun Δ => ∃ d, R d ∧ Δ = Γ.set i (.own [d])) Or := fun _ _ c σ Hd H e hc D q1 _ =>
  h _ _ c σ Hd H e hc _ fun v r Hd1 H1 hr x1 e1 d1 => ⟨by show 1 ≤ sizeLine; decide, fun a ha => by
    have n1 := Evl.fresh_back e1.en.x.i ha
    have e2 := e1.ext ((Ext.refl e1.en.x.i).mut (o := .lst [v]) ha n1)
    have hap : a ≠ p := fun z => by
      subst z
      obtain ⟨o, ho, _⟩ := e1.b
      rw [ha] at ho
      cases ho
    refine q1 _ _ Hd1 _ ⟨r, hr, rfl⟩ (e2.setOwn (Evl.fresh_back e1.en.x.h ha) n1 upd_same (.cons d1 .nil) hap fun j es hj hs => ?_) x1.d
    obtain ⟨b, vs, g1, _, _, g4, _⟩ := e1.en.own hj
    rw [hs] at g1
    cases g1
    rw [ha] at g4
    cases g4⟩
variable (K p) in
/-- a test that draws -/
def ETB (tt : TT) (Γ : List G) (n : Nat) (R : Bool → Prop) : Prop := ∀ Hd0 H0 c σ Hd H, EnB K p Hd0 H0 Γ c σ Hd H → c + n < 2 ^ 60 → ∀ Q : Bool → Hp → Prop, (∀ b Hd' H', R b → Ext Hd (hid p H) Hd' H' → EnB K p Hd0 H0 Γ (c + n) σ Hd' H' → Q b H') → tt σ H Q
variable {Q1 Q2 : Bool → Prop}
theorem etb_pure (h : ET K tt Γ b) : ETB K p tt Γ 0 (fun c => c = b) := fun _ _ c σ Hd H e _ Q q => h _ _ σ Hd H e.en _ fun Hd1 H1 x1 => q b Hd1 H1 rfl x1.hidE (e.ext x1)
theorem etb_test (h : EB K p te Γ n R) (hR : ∀ r, R r → ∃ b, r = .bool b) : ETB K p (tTest te) Γ n (fun b => R (.bool b)) := fun _ _ c σ Hd H e hc Q q => h _ _ c σ Hd H e hc _ fun v r Hd1 H1 hr x1 e1 d1 => by
  obtain ⟨b, rfl⟩ := hR r hr
  cases d1
  exact ⟨b, rfl, q b Hd1 H1 hr x1 e1⟩
theorem etb_and (h1 : ETB K p tt Γ n Q1) (h2 : Q1 true → ETB K p tu Γ m Q2) : ETB K p (tAnd tt tu) Γ (n + m) (fun b => b = true → Q1 true ∧ Q2 true) := fun _ _ c σ Hd H e hc Q q => h1 _ _ c σ Hd H e (by omega) _ fun b Hd1 H1 hr x1 e1 => by
  cases b with
  | true => exact iteT (h2 hr _ _ _ σ Hd1 H1 e1 (by omega) _ fun b Hd2 H2 hr2 x2 e2 => q b Hd2 H2 (fun z => ⟨hr, z ▸ hr2⟩) (x1.hid2 x2) (by have := e2; rw [Nat.add_assoc] at this; exact this))
  | false => exact iteF (q false Hd1 H1 (fun z => nomatch z) x1 (e1.mono (by omega)))
theorem eb_ifB (h : ETB K p tt Γ n Q1) (h1 : Q1 true → EB K p ta Γ m R) (h2 : EB K p tb Γ m R) : EB K p (tIf tt ta tb) Γ (n + m) R := fun _ _ c σ Hd H e hc Q q => h _ _ c σ Hd H e (by omega) _ fun b Hd1 H1 hr x1 e1 => by
  cases b with
  | true => exact iteT (h1 hr _ _ _ σ Hd1 H1 e1 (by omega) _ fun v r Hd2 H2 hr2 x2 e2 dv => q v r Hd2 H2 hr2 (x1.hid2 x2) (by have := e2; rw [Nat.add_assoc] at this; exact this) dv)
  | false => exact iteF (h2 _ _ _ σ Hd1 H1 e1 (by omega) _ fun v r Hd2 H2 hr2 x2 e2 dv => q v r Hd2 H2 hr2 (x1.hid2 x2) (by have := e2; rw [Nat.add_assoc] at this; exact this) dv)
end
end DL

namespace DL
open PySem PySem.Spec PyProof.Rows L2
open Evl (Ex)
open RZ
/-! ### enumerate(text), tuple(text) -/
def Ites (x : Str) : It :=
  ⟨fun i _ => i < x.cps.size, fun i H v H' => ∃ T c, v = .ref T ∧ H T = none ∧ (∃ o : Obj, o.dict = none ∧ H' = upd H T (.frz o (.tup [.int (i : Nat), .str ⟨#[c]⟩]))) ∧ x.cps[i]? = some c, fun i _ => i = x.cps.size⟩
theorem two_cases {a b c : Addr} {p : Addr → Prop} (h : c ∈ [a, b]) (ha : p a) (hb : p b) : p c := by
  rcases List.mem_cons.mp h with q | q
  · exact q ▸ ha
  · exact List.mem_singleton.mp q ▸ hb
/-- the signs of a text, drawn one by one -/
theorem signs_drawn {P : Program} {w : World} {A : Around} (quiet : A.handled = none) {it : Addr} {x : Str} {t : Tok} {ty : String} (kind : ty = "str_ascii_iterator" ∨ ty = "str_iterator") :
    Draws P w A it [it] x.cps.size (fun n v => ∃ c u, x.cps[n]? = some c ∧ v = .str ⟨#[c]⟩ u) (fun n h => h.IsStrIter it ty x t n) := by
  rcases kind with rfl | rfl
  · exact Draws.strAscii quiet it x t
  · exact Draws.strWide quiet it x t
theorem turn_enumS {P : Program} {w : World} {K : PySem.W.Frag} {es : List Expr} {q : Nat} {ps : Pos} (en it : Addr) (x : Str) (t : Tok) (ty : String) (kind : ty = "str_ascii_iterator" ∨ ty = "str_iterator") :
    Turn P w K (.Tuple es q ps) (Ites x) [en, it] en (fun n h => en ≠ it ∧ h.IsStrIter it ty x t n ∧ ∃ last, IsEnum h en it ((n : Nat) : Int) last) where
  mem := List.mem_cons_self
  obj := fun n h ⟨_, ⟨o, oat, _, od⟩, _, eat⟩ b hb => two_cases (p := fun b => ∃ o, h.get? b = some o ∧ ∀ v, o.data ≠ .cell v) hb ⟨_, eat, fun _ z => nomatch z⟩ ⟨o, oat, fun _ z => by rw [od] at z; exact nomatch z⟩
  keep := fun n h h2 ⟨apart, ⟨o, oat, r⟩, last, eat⟩ k => ⟨apart, ⟨o, k it (List.mem_cons_of_mem _ List.mem_cons_self) o oat, r⟩, last, k en List.mem_cons_self _ eat⟩
  item := by
    rintro Y rfl rfl rfl calm n pins s σ H E J free ⟨apart, iter, last, eat⟩ more
    obtain ⟨_, itat, _⟩ := id iter
    have old : ∀ b ∈ [en, it], b < s.heap.objs.size := fun b hb => two_cases (p := fun b => b < s.heap.objs.size) hb (Heap.lt_size eat) (Heap.lt_size itat)
    refine wpAny_pyNext_enum_itemD (signs_drawn (A := Y.A.in1) (show Y.A.in1.handled = none from J.ok.hd calm) kind) eat iter more apart (fun z => apart (List.mem_singleton.mp z)) fun u g tk sign out next pair _ rest => ?_
    obtain ⟨c, tc, at_c, rfl⟩ := sign
    refine ⟨_, rfl, wpAny_letOwnedTupleGo_enum (s := { s with heap := g, toks := tk + 1 }) out fun g2 eat2 only => ?_⟩
    have fresh : H s.heap.objs.size = none := J.hok.fresh (Nat.le_refl _)
    have pair2 := (only.2 s.heap.objs.size (Nat.ne_of_gt (old en List.mem_cons_self))).trans pair
    obtain ⟨ob, b1, b2, b3, b4⟩ : ∃ ob : Obj, g2.get? s.heap.objs.size = some ob ∧ ob.dict = none ∧ ob.cls = .type "tuple" ∧ ∃ m, ob.data = .seq #[.int n tk, .str ⟨#[c]⟩ tc] m := ⟨_, pair2, rfl, rfl, _, rfl⟩
    have made : ObjOk Y.prog Y.w (upd H s.heap.objs.size (.frz ob (.tup [.int (n : Nat), .str ⟨#[c]⟩]))) g2 s.heap.objs.size (.frz ob (.tup [.int (n : Nat), .str ⟨#[c]⟩])) :=
      ⟨b1, (by show 2 ≤ sizeLine; decide), [.int n tk, .str ⟨#[c]⟩ tc], .cons ⟨_, rfl⟩ (.cons ⟨_, rfl⟩ .nil), ⟨_, b1, b3, b4⟩⟩
    have J2 := J.turnedNew (t' := tk + 1) (ch := [en, it]) (h' := g2) (fun b ob out2 was => by
      have n1 : b ≠ en := fun z => out2 (z ▸ List.mem_cons_self)
      have n2 : b ≠ it := fun z => out2 (z ▸ List.mem_cons_of_mem _ List.mem_cons_self)
      exact (only.2 b n1).trans (rest b ob n1 n2 was)) free (Nat.le_refl _) made
    obtain ⟨oi, nat, nr⟩ := next
    refine ⟨.ref s.heap.objs.size, _, J2, rfl, ⟨_, c, rfl, fresh, ⟨ob, b2, rfl⟩, at_c⟩, ⟨apart, ⟨oi, (only.2 it apart.symm).trans nat, nr⟩, .str ⟨#[c]⟩ tc, ?_⟩, fun b hb => ?_⟩
    · rw [show ((n + 1 : Nat) : Int) = (n : Int) + 1 by omega]
      exact eat2
    · show upd H _ _ b = none
      rw [upd_ne (Nat.ne_of_lt (old b hb)), (free b hb).1]
  done := by
    rintro Y rfl rfl rfl calm n pins s σ H E J free ⟨apart, iter, last, eat⟩ rfl
    have ⟨w0, w1, _, w3, w4, w5⟩ := free it (List.mem_cons_of_mem _ List.mem_cons_self)
    exact wpAny_pyNext_enum_endD (signs_drawn (A := Y.A.in1) (show Y.A.in1.handled = none from J.ok.hd calm) kind) eat iter fun g kept => ⟨rfl, J.turned (t' := s.toks) (fun b o nb was => kept b o nb was) w0 w1 w3 w4 w5⟩
  self := fun A n s Q E ⟨_, _, _, eat⟩ h => wpAny_pyIter_enum eat h
def iEnumS (ta : TA) : TI := fun σ H R => ta σ H fun vs H1 => ∃ x, vs = [.str x] ∧ R (Ites x) H1
theorem pi_enumS {X : Cx} {e : Expr} {ta : TA} {p q ps : Pos} {es : List Expr} {n : Nat} (hg : Gl X "enumerate") (hm : X.mg "enumerate" = none) (ha : PA X [e] ta) (plain : starEach [e] X.env = [(false, eval e X.env)] := by rfl) :
    PI X (.Tuple es n ps) (.Call (.Name "enumerate" p) [e] [] q) (iEnumS ta) := ⟨fun pins s σ H R J h => by
  refine Call_ (ld_blt J hg hm boot_enumerate ?_)
  refine PyProof.Rows.callWith_type1 (thn (ha.run q pins s σ H _ J h) fun us s1 ⟨vs, H1, J1, rel, x, ev, go⟩ => ?_) plain rfl
  subst ev
  obtain ⟨_, rfl, t, rfl⟩ := vals1 rel
  refine call_enumerate_str fun g eat iter _ kept => wpAny_pyIter_enum eat ?_
  have J2 : Inv X pins σ H1 { s1 with heap := g } := J1.kept (t' := s1.toks) kept
  have kind : strIterType x = "str_ascii_iterator" ∨ strIterType x = "str_iterator" := by
    unfold strIterType
    split <;> simp
  refine ⟨s1.heap.objs.size + 1, [s1.heap.objs.size + 1, s1.heap.objs.size], _, _, H1, rfl, J2, turn_enumS (s1.heap.objs.size + 1) s1.heap.objs.size x t (strIterType x) kind, ⟨Nat.succ_ne_self _, iter, .none, eat⟩, fun b hb => ?_, go⟩
  have late := two_cases (p := fun b => s1.heap.objs.size ≤ b) hb (Nat.le_succ _) (Nat.le_refl _)
  exact J1.fpOk late (J1.hok.fresh late)⟩
def charsD (x : Str) : List PyData := x.cps.toList.map fun c => .str ⟨#[c]⟩
section
variable {K : PySem.W.Frag} {Γ : List G}
theorem ei_enumS {ta : TA} {x : Str} (h : EA K ta Γ [.str x]) : EI K (iEnumS ta) Γ (enumD (charsD x)) := fun _ _ σ Hd H e R q => h _ _ σ Hd H e _ fun v Hd1 H1 x1 d1 => by
  cases d1 with
  | cons d1 d2 =>
    cases d1
    cases d2
    have hl : (enumD (charsD x)).length = x.cps.size := by unfold enumD charsD; rw [zipD_len]; simp
    refine ⟨x, rfl, q _ Hd1 H1 x1 fun Hd' H' e1 e2 => ⟨hl, fun i d hd => ?_⟩⟩
    have hi : i < x.cps.size := hl ▸ (List.getElem?_eq_some_iff.mp hd).1
    refine ⟨hi, fun v H'' ⟨T, c, ev, hT, ⟨o, ho, eH⟩, hc⟩ => ?_⟩
    subst ev eH
    obtain ⟨y, z, hy, hz, rfl⟩ := zipD_get hd
    have ey : y = .int (i : Nat) := by
      rw [List.getElem?_map, List.getElem?_range (by unfold charsD; simpa using hi)] at hy
      exact (Option.some.inj hy).symm
    have ez : z = .str ⟨#[c]⟩ := by
      unfold charsD at hz
      rw [List.getElem?_map, Array.getElem?_toList, hc] at hz
      exact (Option.some.inj hz).symm
    subst ey ez
    exact ⟨_, (Ext.refl e2).new hT, .tup (Tp.new ho) (.cons (.int _) (.cons (.str _) .nil))⟩
end
theorem vals_signs : ∀ (l : List Nat) (m : List Value), m.length = l.length → (∀ (j : Nat) (v : Value), m[j]? = some v → ∃ c u, l[j]? = some c ∧ v = .str ⟨#[c]⟩ u) → Vals (l.map fun c => V.str ⟨#[c]⟩) m
  | [], [], _, _ => .nil
  | [], _ :: _, h, _ => nomatch h
  | _ :: _, [], h, _ => nomatch h
  | c :: l, v :: m, h, q => by
    obtain ⟨c', u, e, rfl⟩ := q 0 v rfl
    cases e
    exact .cons ⟨u, rfl⟩ (vals_signs l m (by simpa using h) fun j v hj => q (j + 1) v hj)
def rTupS : List V → Hp → VK → Prop := fun xs H Q => ∃ x : Str, xs = [.str x] ∧ x.cps.size ≤ sizeLine ∧ ∀ (l : Addr) (o : Obj), H l = none → o.dict = none → Q (.ref l) (upd H l (.frz o (.tup (x.cps.toList.map fun c => .str ⟨#[c]⟩))))
theorem call_tupS {X : Cx} (hc : X.calm = true) : CallR X (.type "tuple") rTupS := by
  intro pins s σ H xs us Q I r h
  obtain ⟨x, rfl, hz, q⟩ := h
  obtain ⟨u, rfl, ru⟩ := vals1 r
  obtain ⟨t, rfl⟩ := ru
  refine call_tuple_str (I.ok.hd hc) x t (fun h' tk acc hk hacc => ?_) hz
  have I1 : Inv X pins σ H { s with heap := h', toks := tk } := I.kept (t' := tk) hk
  have hv : Vals (x.cps.toList.map fun c => V.str ⟨#[c]⟩) acc.toList := by
    refine vals_signs _ _ (by rw [Array.length_toList, Array.length_toList]; exact hacc.1) fun j v hj => ?_
    obtain ⟨c, u, e1, e2⟩ := hacc.2 j v (by rw [← Array.getElem?_toList]; exact hj)
    exact ⟨c, u, by rw [Array.getElem?_toList]; exact e1, e2⟩
  have fin := laid_tup (s := { s with heap := h', toks := tk }) (g := h') (tk := tk) I1 (fun _ _ e => e) hv (by simpa using hz) q (Nat.le_refl _)
  rw [Array.toArray_toList] at fin
  exact fin
theorem ed_tupS {K : PySem.W.Frag} {Γ : List G} {te : TE} {x : Str} (h : ED K te Γ (.str x)) (hl : x.cps.size ≤ 100000) : ED K (tCB rTupS (tCons te tNil)) Γ (.tuple (charsD x)) := fun _ _ σ Hd H e Q q => h _ _ σ Hd H e _ fun v Hd1 H1 x1 d1 => by
  cases d1
  refine ⟨x, rfl, fits_of hl, fun l o hl ho => q _ (upd Hd1 l (.frz o (.tup _))) _ (x1.new hl) (.tup (Tp.new ho) ?_)⟩
  have := DtA.strs (K := K) (H := upd Hd1 l (.frz o (.tup (x.cps.toList.map fun c => .str ⟨#[c]⟩)))) (x.cps.toList.map fun c => (⟨#[c]⟩ : Str))
  rw [List.map_map, List.map_map] at this
  exact this
section
variable {K : PySem.W.Frag} {Γ : List G} {te ta tb : TE} {ds : List PyData}
theorem ed_int1I {i : Int} (h : ED K te Γ (.int i)) : ED K (tCB (fun xs H Q => (∃ i, xs = [V.int i] ∧ Q (V.int i) H) ∨ ∃ k, xs = [V.bl k] ∧ Q (V.int (if k then 1 else 0)) H) (tCons te tNil)) Γ (.int i) := fun _ _ σ Hd H e Q q => h _ _ σ Hd H e _ fun v Hd1 H1 x1 d1 => by
  cases d1
  exact .inl ⟨i, rfl, q _ Hd1 H1 x1 (.int i)⟩
theorem ed_int1B {b : Bool} (h : ED K te Γ (.bool b)) : ED K (tCB (fun xs H Q => (∃ i, xs = [V.int i] ∧ Q (V.int i) H) ∨ ∃ k, xs = [V.bl k] ∧ Q (V.int (if k then 1 else 0)) H) (tCons te tNil)) Γ (.int (if b then 1 else 0)) := fun _ _ σ Hd H e Q q => h _ _ σ Hd H e _ fun v Hd1 H1 x1 d1 => by
  cases d1
  exact .inr ⟨b, rfl, q _ Hd1 H1 x1 (.int _)⟩
end
end DL

namespace DL
open PySem PySem.Spec PyProof.Rows L2
open Evl (Ex)
open RZ
/-! ### chains of two comparisons, texts' lengths, signs of a text -/
section
variable {K : PySem.W.Frag} {Γ : List G} {ta tb tc te : TE} {b1 b2 : Bool} {s : Str}
theorem ed_chain {r r' : R2} {x y z : PyData} (h1 : ED K ta Γ x) (h2 : ED K tb Γ y) (hr : RD K r x y (.bool b1)) (h3 : b1 = true → ED K tc Γ z) (hs : b1 = true → RD K r' y z (.bool b2)) : ED K (tChain r r' ta tb tc) Γ (.bool (b1 && b2)) := fun _ _ σ Hd H e Q q =>
  h1 _ _ σ Hd H e _ fun v Hd1 H1 x1 d1 => h2 _ _ σ Hd1 H1 (e.ext x1) _ fun w Hd2 H2 x2 d2 => hr Hd2 H2 v w x2.i (d1.mono x2.d) d2 _ fun u Hd3 H3 x3 d3 => by
    have x123 := x1.trans (x2.trans x3)
    cases d3
    refine ⟨b1, rfl, ?_⟩
    cases b1 with
    | false => exact iteF (q _ Hd3 H3 x123 (.bl false))
    | true => exact iteT (h3 rfl _ _ σ Hd3 H3 (e.ext x123) _ fun a Hd4 H4 x4 d4 => hs rfl Hd4 H4 w a x4.i (d2.mono (x3.d.trans x4.d)) d4 _ fun c Hd5 H5 x5 d5 => q c Hd5 H5 (x123.trans (x4.trans x5)) d5)
theorem ed_lenS (h : ED K te Γ (.str s)) (hl : s.length ≤ 100000) : ED K (tCB (fun xs H Q => ∃ x : Str, xs = [V.str x] ∧ x.length ≤ sizeLine ∧ Q (V.int x.length) H) (tCons te tNil)) Γ (.int s.length) := fun _ _ σ Hd H e Q q => h _ _ σ Hd H e _ fun v Hd1 H1 x1 d1 => by
  cases d1
  exact ⟨s, rfl, fits_of hl, q _ Hd1 H1 x1 (.int _)⟩
theorem ed_sum {ns : List Int} (h : ER K te Γ (ns.map PyData.int)) : ED K (tCB (rSum K) (tCons te tNil)) Γ (.int ns.sum) := fun _ _ σ Hd H e Q q => h _ _ σ Hd H e _ fun a vs Hd1 H1 x1 h1 d1 =>
  ⟨a, ns, rfl, SqL.of (by rw [h1, d1.ofInts]), q _ Hd1 H1 x1 (.int _)⟩
theorem dtk_any {H : Hp} {x : Str} : ∀ {ks : List (Key × V)} {kvs : List (PyData × PyData)}, DtK K H ks kvs → (∀ p ∈ kvs, p.1 ≠ .str x) → (ks.any fun kv => decide (kv.1 = (.inr x : Key))) = false
  | [], _, h, _ => rfl
  | (k, v) :: ks, _, h, ne => by
    cases h with
    | @cons y _ _ d _ h1 h2 =>
      rw [List.any_cons, dtk_any h2 fun p hp => ne p (List.mem_cons_of_mem _ hp), Bool.or_false]
      refine decide_eq_false fun q => ne (.str y, d) List.mem_cons_self ?_
      rw [Sum.inr.inj q]
theorem dtk_len {H : Hp} : ∀ {ks : List (Key × V)} {kvs : List (PyData × PyData)}, DtK K H ks kvs → ks.length = kvs.length
  | [], _, h => by cases h; rfl
  | _ :: _, _, h => by
    cases h with
    | cons h1 h2 => rw [List.length_cons, List.length_cons, dtk_len h2]
theorem dtk_mono {H H' : Hp} (e : Ex H H') : ∀ {ks : List (Key × V)} {kvs : List (PyData × PyData)}, DtK K H ks kvs → DtK K H' ks kvs
  | [], _, h => by cases h; exact .nil
  | _ :: _, _, h => by
    cases h with
    | cons h1 h2 => exact .cons (h1.mono e) (dtk_mono e h2)
/-- {k: v for .. in ..}, the keys texts, no one twice -/
theorem ed_dc {wi : TI} {g : TG} {tk tv : TE} {vs : List Nat} {ds : List PyData} {ns : List Str} {f : Str → PyData} (hi : EI K wi Γ ds) (hn : ds.length = ns.length) (hl : ns.length ≤ 100000) (nd : ns.Nodup)
    (ht : ∀ (k : Nat) (d : PyData) (n : Str), ds[k]? = some d → ns[k]? = some n → ∃ Δ, GD K g (wipeG Γ vs) d vs Δ ∧ ED K tk Δ (.str n) ∧ ED K tv Δ (f n)) : ED K (tDc wi g tYes tk tv vs) Γ (.dict (ns.map fun n => (.str n, f n))) := by
  intro Hd0 H0 σ Hd H e Q q
  refine hi _ _ σ Hd H e _ fun J Hd1 H1 x1 ok D hD => ?_
  have nD : H D = none := Evl.fresh_back x1.h hD
  have nD1 : Hd1 D = none := Evl.fresh_back x1.i hD
  refine ⟨fun i m G => m = ds.length - i ∧ i ≤ ds.length ∧ ∃ Hd2 acc, Ext Hd1 H1 Hd2 G ∧ Hd2 D = none ∧ G D = some (.dK acc) ∧ DtK K Hd2 acc ((ns.take i).map fun n => (.str n, f n)),
    ⟨ds.length, rfl, Nat.zero_le _, Hd1, [], (Ext.refl x1.i).mut hD nD1, nD1, upd_same, .nil⟩, ?_⟩
  rintro i m G ⟨rfl, hle, Hd2, acc, x2, n2, a2, t2⟩
  obtain ⟨st, go⟩ := ok Hd2 G x2.d x2.i
  by_cases hlt : i < ds.length
  · have hd : ds[i]? = some ds[i] := by simp [hlt]
    have hns : ns[i]? = some (ns[i]'(hn ▸ hlt)) := by simp [hn ▸ hlt]
    obtain ⟨gi, yl⟩ := go i _ hd
    refine .inr ⟨gi, fun G' => ∃ Hd2 acc, Ext Hd1 H1 Hd2 G' ∧ Hd2 D = none ∧ G' D = some (.dK acc) ∧ DtK K Hd2 acc ((ns.take (i + 1)).map fun n => (.str n, f n)), fun G' w => ⟨ds.length - (i + 1), by omega, rfl, hlt, w⟩, fun x H3 y3 => ?_⟩
    obtain ⟨Hd3, x3, d3⟩ := yl x H3 y3
    obtain ⟨Δ, hg, htk, htv⟩ := ht i _ _ hd hns
    generalize ns[i]'(hn ▸ hlt) = n at hns htk htv
    have x13 := x2.trans x3
    have n3 : Hd3 D = none := x3.f _ _ n2 a2
    have a3 := x3.h _ _ a2
    refine hg _ _ _ Hd3 H3 x ((e.ext (x1.trans x13)).wipe vs) d3 _ fun σ2 e2 w2 => ⟨w2.trans (wipe_wipe fun _ z => z), ?_⟩
    refine et_yes _ _ σ2 Hd3 H3 e2 _ fun Hd6 H6 x6 => iteT (htk _ _ σ2 Hd6 H6 (e2.ext x6) _ fun y Hd4 H4 x4' d4 => htv _ _ σ2 Hd4 H4 ((e2.ext x6).ext x4') _ fun z Hd5 H5 x5 d5 => ?_)
    have x4 := x6.trans x4'
    cases d4
    have n5 : Hd5 D = none := x5.f _ _ (x4.f _ _ n3 a3) (x4.h _ _ a3)
    have a5 := x5.h _ _ (x4.h _ _ a3)
    have hnew : ∀ p ∈ ((ns.take i).map fun n => (PyData.str n, f n)), p.1 ≠ .str n := fun p hp eq => by
      obtain ⟨u, hu, rfl⟩ := List.mem_map.mp hp
      have eu : u = n := PyData.str.inj eq
      subst eu
      obtain ⟨j, hj1, hj2⟩ := List.mem_take_iff_getElem.mp hu
      have hj3 : ns[j]? = some u := by rw [List.getElem?_eq_getElem (by omega)]; exact congrArg some hj2
      have := nd_ix nd hj3 hns
      omega
    have t5 := dtk_mono (x3.d.trans (x4.d.trans x5.d)) t2
    have hlen := dtk_len t5
    rw [List.length_map, List.length_take] at hlen
    refine ⟨acc, .inr n, rfl, a5, Nat.lt_of_lt_of_le (by omega : acc.length < 100000) (by decide : 100000 ≤ sizeLine), Hd5, acc ++ [(.inr n, z)], (x13.trans (x4.trans x5)).mut hD n5, n5, ?_, ?_⟩
    · rw [upd_same]
      unfold putK
      rw [if_neg (by rw [dtk_any t5 hnew]; exact Bool.false_ne_true)]
    · rw [List.take_add_one, hns, List.map_append]
      exact dtk_snoc t5 d5
  · have ei : i = ds.length := by omega
    subst ei
    rw [hn, List.take_length] at t2
    exact .inl ⟨st, q _ (upd Hd2 D (.dK acc)) G ((x1.trans x2).take nD n2 a2) (.dct upd_same (dtk_mono (Ex.new n2) t2))⟩
/-- whether a text stands in another one, as the language looks -/
def inTxt (i j : Str) : Bool := !(Builtin.Str.occurrences j i 0 j.length 1).isEmpty
theorem rd_inS {i j : Str} : RD K (fun x y H Q => ∃ i j, x = V.str i ∧ y = V.str j ∧ Q (V.bl (!(Builtin.Str.occurrences j i 0 j.length 1).isEmpty)) H) (.str i) (.str j) (.bool (inTxt i j)) := fun Hd H v w e d1 d2 Q q => by
  cases d1
  cases d2
  exact ⟨i, j, rfl, rfl, q _ Hd H (.refl e) (.bl _)⟩
end
/-! ### CHARTS, by the look of a thing -/
def numB : PyData → Bool
  | .int _ => true
  | _ => false
def pairB : PyData → Bool
  | .tuple xs => decide (xs.length = 2)
  | _ => false
def lettersS : Str := "abcdefghijklmnopqrstuvwxyz"
def nameB : PyData → Bool
  | .str s => (decide (1 ≤ (s.length : Int)) && decide ((s.length : Int) ≤ 8)) && (charsD s).all fun c => match c with | .str x => inTxt x lettersS | _ => false
  | _ => false
def geTwo : PyData → Bool
  | .int i => decide (2 ≤ i)
  | _ => false
def sizesB : PyData → Bool
  | .tuple xs => decide (xs.length ≠ 0) && xs.all fun x => numB x && geTwo x
  | _ => false
def domB (f : PyData → Bool) : List PyData → PyData → Prop := fun ds r => ∃ d, ds = [d] ∧ fine d = true ∧ r = .bool (f d)
end DL

namespace DL
open PySem PySem.Spec PyProof.Rows L2
open Evl (Ex)
open RZ
/-! ### readings with a function that tells what they give -/
def SqH : Bool → Hp → Addr → List V → Prop
  | true, H, a, vs => H a = some (.lst vs)
  | false, H, a, vs => Tp H a vs
/-- te gives a list or a tuple that can be read -/
def EQ (K : PySem.W.Frag) (te : TE) (Γ : List G) (b : Bool) (ds : List PyData) : Prop := ∀ Hd0 H0 σ Hd H, En K Hd0 H0 Γ σ Hd H → ∀ Q : VK, (∀ a vs Hd' H', Ext Hd H Hd' H' → SqH b H' a vs → (b = false → Tp Hd' a vs) → DtA K Hd' vs ds → Q (.ref a) H') → te σ H Q
structure SX (K : PySem.W.Frag) where
  te : TE
  ev : List G → Option PyData
  ok : ∀ {Γ : List G} {d : PyData}, ev Γ = some d → ED K te Γ d
structure SF (K : PySem.W.Frag) where
  te : TE
  ev : List G → Option (List PyData)
  ok : ∀ {Γ : List G} {ds : List PyData}, ev Γ = some ds → EF K te Γ ds
structure SQ (K : PySem.W.Frag) where
  te : TE
  ev : List G → Option (Bool × List PyData)
  ok : ∀ {Γ : List G} {b : Bool} {ds : List PyData}, ev Γ = some (b, ds) → EQ K te Γ b ds
structure SA (K : PySem.W.Frag) where
  ta : TA
  ev : List G → Option (List PyData)
  ok : ∀ {Γ : List G} {ds : List PyData}, ev Γ = some ds → EA K ta Γ ds
structure ST (K : PySem.W.Frag) where
  tt : TT
  ev : List G → Option Bool
  ok : ∀ {Γ : List G} {b : Bool}, ev Γ = some b → ET K tt Γ b
structure SO (K : PySem.W.Frag) where
  to : TO
  ev : List G → Option (Option Int)
  ok : ∀ {Γ : List G} {o : Option Int}, ev Γ = some o → EO K to Γ o
structure SI (K : PySem.W.Frag) where
  wi : TI
  ev : List G → Option (List PyData)
  ok : ∀ {Γ : List G} {ds : List PyData}, ev Γ = some ds → EI K wi Γ ds
structure SG (K : PySem.W.Frag) (vs : List Nat) where
  g : TG
  ev : List G → PyData → Option (List G)
  ok : ∀ {Γ Δ : List G} {d : PyData}, ev Γ d = some Δ → GD K g Γ d vs Δ
structure SGs (K : PySem.W.Frag) (vs : List Nat) where
  g : TGs
  ev : List G → List PyData → Option (List G)
  ok : ∀ {Γ Δ : List G} {ds : List PyData}, ev Γ ds = some Δ → GDs K g Γ ds vs Δ
structure F2 (K : PySem.W.Frag) (r : R2) where
  f : PyData → PyData → Option PyData
  ok : ∀ {x y z : PyData}, f x y = some z → RD K r x y z
structure FC (K : PySem.W.Frag) (r : List V → Hp → VK → Prop) where
  f : List PyData → Option PyData
  ok : ∀ {xs : List PyData} {z : PyData}, f xs = some z → CD K r xs z
section
variable {K : PySem.W.Frag} {Γ Δ : List G} {te ta tb : TE} {d x y z : PyData} {ds es xs ys : List PyData} {b c : Bool}
theorem ED.q1 (h : ED K te Γ (.list ds)) : EQ K te Γ true ds := fun _ _ σ Hd H e Q q => h _ _ σ Hd H e Q fun v Hd' H' x1 h1 => by
  cases h1 with
  | lst h2 h3 => exact q _ _ Hd' H' x1 (x1.i _ _ h2) (fun z => nomatch z) h3
theorem ED.q0 (h : ED K te Γ (.tuple ds)) : EQ K te Γ false ds := fun _ _ σ Hd H e Q q => h _ _ σ Hd H e Q fun v Hd' H' x1 h1 => by
  cases h1 with
  | tup h2 h3 => exact q _ _ Hd' H' x1 (h2.mono x1.i) (fun _ => h2) h3
theorem ER.q (h : ER K te Γ ds) : EQ K te Γ true ds := fun _ _ σ Hd H e Q q => h _ _ σ Hd H e Q fun a vs Hd' H' x1 h1 h2 => q a vs Hd' H' x1 h1 (fun z => nomatch z) h2
theorem EQ.r (h : EQ K te Γ true ds) : ER K te Γ ds := fun _ _ σ Hd H e Q q => h _ _ σ Hd H e Q fun a vs Hd' H' x1 h1 _ h2 => q a vs Hd' H' x1 h1 h2
theorem SqH.mono {H H' : Hp} (e : Ex H H') {a : Addr} {vs : List V} : ∀ {b : Bool}, SqH b H a vs → SqH b H' a vs
  | true, h => e _ _ h
  | false, h => Tp.mono e h
theorem sq_b {H : Hp} {a : Addr} {vs : List V} (h : SqH b H a vs) : SqL K H a vs ∨ SqT K H a vs := by
  cases b with
  | true => exact .inl (SqL.of h)
  | false => exact .inr (Tp.sq h)
theorem bnd {α β : Type} {o : Option α} {f : α → Option β} {r : β} (h : o.bind f = some r) : ∃ a, o = some a ∧ f a = some r := Option.bind_eq_some_iff.mp h
end
section
variable {K : PySem.W.Frag}
/-! ### expressions -/
def sVar (i : Nat) : SX K := ⟨tVar i, fun Γ => match Γ[i]? with | some (.dat d) => some d | _ => none, fun {Γ d} h => by
  split at h
  · cases h; rename_i z; exact ed_var z
  · cases h⟩
def sInt (i : Int) : SX K := ⟨tC (.int i), fun _ => some (.int i), fun h => by cases h; exact ed_int⟩
def sStr (i : Str) : SX K := ⟨tC (.str i), fun _ => some (.str i), fun h => by cases h; exact ed_str⟩
def sBl (i : Bool) : SX K := ⟨tC (.bl i), fun _ => some (.bool i), fun h => by cases h; exact ed_bl⟩
def sNon : SX K := ⟨tC .non, fun _ => some .none, fun h => by cases h; exact ed_non⟩
def aNil : SA K := ⟨tNil, fun _ => some [], fun h => by cases h; exact ea_nil⟩
def aCons (x : SX K) (r : SA K) : SA K := ⟨tCons x.te r.ta, fun Γ => (x.ev Γ).bind fun d => (r.ev Γ).bind fun ds => some (d :: ds), fun h => by
  obtain ⟨d, h1, h⟩ := bnd h
  obtain ⟨ds, h2, h⟩ := bnd h
  cases h
  exact ea_cons (x.ok h1) (r.ok h2)⟩
def sTup (a : SA K) : SX K := ⟨tTupX a.ta, fun Γ => (a.ev Γ).bind fun ds => if ds.length ≤ 100000 then some (.tuple ds) else none, fun h => by
  obtain ⟨ds, h1, h⟩ := bnd h
  split at h
  · cases h; rename_i z; exact ed_tup (a.ok h1) z
  · cases h⟩
def fLst (a : SA K) : SF K := ⟨tLst a.ta, fun Γ => (a.ev Γ).bind fun ds => if ds.length ≤ 100000 then some ds else none, fun h => by
  obtain ⟨ds, h1, h⟩ := bnd h
  split at h
  · cases h; rename_i z; exact ef_lst (a.ok h1) z
  · cases h⟩
def SF.x (a : SF K) : SX K := ⟨a.te, fun Γ => (a.ev Γ).bind fun ds => some (.list ds), fun h => by
  obtain ⟨ds, h1, h⟩ := bnd h
  cases h
  exact (a.ok h1).dat⟩
def SF.q (a : SF K) : SQ K := ⟨a.te, fun Γ => (a.ev Γ).bind fun ds => some (true, ds), fun h => by
  obtain ⟨ds, h1, h⟩ := bnd h
  cases h
  exact (a.ok h1).rd.q⟩
def SX.q (a : SX K) : SQ K := ⟨a.te, fun Γ => (a.ev Γ).bind fun d => match d with | .list ds => some (true, ds) | .tuple ds => some (false, ds) | _ => none, fun h => by
  obtain ⟨d, h1, h⟩ := bnd h
  cases d with
  | list ds => cases h; exact (a.ok h1).q1
  | tuple ds => cases h; exact (a.ok h1).q0
  | _ => cases h⟩
def qVar (i : Nat) : SQ K := ⟨tVar i, fun Γ => match Γ[i]? with | some (.own ds) => some (true, ds) | some (.dat (.list ds)) => some (true, ds) | some (.dat (.tuple ds)) => some (false, ds) | _ => none, fun {Γ b ds} h => by
  split at h
  · cases h; rename_i z; exact (er_own z).q
  · cases h; rename_i z; exact (ed_var z).q1
  · cases h; rename_i z; exact (ed_var z).q0
  · cases h⟩
def sOp {r : R2} (F : F2 K r) (a b : SX K) : SX K := ⟨tOp r a.te b.te, fun Γ => (a.ev Γ).bind fun x => (b.ev Γ).bind fun y => F.f x y, fun h => by
  obtain ⟨x, h1, h⟩ := bnd h
  obtain ⟨y, h2, h⟩ := bnd h
  exact ed_op (a.ok h1) (b.ok h2) (F.ok h)⟩
def fCat (a b : SQ K) : SF K := ⟨tOp rCat a.te b.te, fun Γ => (a.ev Γ).bind fun x => (b.ev Γ).bind fun y => if x.1 && y.1 && decide (x.2.length + y.2.length ≤ 100000) then some (x.2 ++ y.2) else none, fun {Γ ds} h => by
  obtain ⟨⟨b1, xs⟩, h1, h⟩ := bnd h
  obtain ⟨⟨b2, ys⟩, h2, h⟩ := bnd h
  split at h
  · rename_i z
    simp only [Bool.and_eq_true, decide_eq_true_eq] at z
    obtain ⟨⟨z1, z2⟩, z3⟩ := z
    subst z1 z2
    cases h
    intro Hd0 H0 σ Hd H e Q q
    refine a.ok h1 _ _ σ Hd H e _ fun l vs Hd1 H1 x1 g1 k1 d1 => b.ok h2 _ _ σ Hd1 H1 (e.ext x1) _ fun m ws Hd2 H2 x2 g2 k2 d2 => ?_
    refine ⟨l, m, vs, ws, rfl, rfl, x2.h _ _ g1, g2, fits_of (by rw [d1.length, d2.length]; exact z3), fun p hp => ?_⟩
    have x12 := x1.trans x2
    exact q p _ Hd2 _ (x12.mut (Evl.fresh_back x12.h hp) (Evl.fresh_back x12.i hp)) (Evl.fresh_back x12.h hp) (Evl.fresh_back x12.i hp) upd_same ((d1.mono x2.d).append d2)
  · cases h⟩
def sIx (a : SQ K) (k : SX K) : SX K := ⟨tOp (rIx K) a.te k.te, fun Γ => (a.ev Γ).bind fun x => (k.ev Γ).bind fun i => match i with | .int i => atI x.2 i | _ => none, fun {Γ d} h => by
  obtain ⟨⟨b, xs⟩, h1, h⟩ := bnd h
  obtain ⟨i, h2, h⟩ := bnd h
  cases i with
  | int i =>
    intro Hd0 H0 σ Hd H e Q q
    refine a.ok h1 _ _ σ Hd H e _ fun l vs Hd1 H1 x1 g1 k1 d1 => k.ok h2 _ _ σ Hd1 H1 (e.ext x1) _ fun w Hd2 H2 x2 d2 => ?_
    cases d2
    have h : atI xs i = some d := h
    unfold atI at h
    cases hj : ixN xs.length i with
    | none => rw [hj] at h; cases h
    | some j =>
      rw [hj] at h
      obtain ⟨u, g3, g4⟩ := d1.got (i := j) h
      have ha : atI vs i = some u := by unfold atI; rw [d1.length, hj]; exact g3
      have qq := q u Hd2 H2 (x1.trans x2) (g4.mono x2.d)
      have g2 := SqH.mono x2.h g1
      cases b with
      | true => exact .inl ⟨l, vs, i, u, rfl, rfl, SqL.of g2, ha, qq⟩
      | false => exact .inr (.inl ⟨l, vs, i, u, rfl, rfl, Tp.sq g2, ha, qq⟩)
  | _ => cases h⟩
def sAndV (a b : SX K) : SX K := ⟨tAndV a.te b.te, fun Γ => (a.ev Γ).bind fun x => match x with | .bool true => ((b.ev Γ).bind fun y => match y with | .bool c => some (.bool c) | _ => none) | .bool false => some (.bool false) | _ => none, fun {Γ d} h => by
  obtain ⟨x, h1, h⟩ := bnd h
  cases x with
  | bool u =>
    cases u with
    | true =>
      obtain ⟨y, h2, h⟩ := bnd h
      cases y with
      | bool c => cases h; exact ed_and (b := true) (a.ok h1) fun _ => b.ok h2
      | _ => cases h
    | false => cases h; exact (ed_and (b := false) (c := false) (a.ok h1) fun z => nomatch z)
  | _ => cases h⟩
def sOrV (a b : SX K) : SX K := ⟨tOrV a.te b.te, fun Γ => (a.ev Γ).bind fun x => match x with | .bool false => ((b.ev Γ).bind fun y => match y with | .bool c => some (.bool c) | _ => none) | .bool true => some (.bool true) | _ => none, fun {Γ d} h => by
  obtain ⟨x, h1, h⟩ := bnd h
  cases x with
  | bool u =>
    cases u with
    | false =>
      obtain ⟨y, h2, h⟩ := bnd h
      cases y with
      | bool c => cases h; exact ed_or (b := false) (a.ok h1) fun _ => b.ok h2
      | _ => cases h
    | true => cases h; exact (ed_or (b := true) (c := false) (a.ok h1) fun z => nomatch z)
  | _ => cases h⟩
def sNotV (a : SX K) : SX K := ⟨tNotV a.te, fun Γ => (a.ev Γ).bind fun x => match x with | .bool u => some (.bool (!u)) | _ => none, fun {Γ d} h => by
  obtain ⟨x, h1, h⟩ := bnd h
  cases x with
  | bool u => cases h; exact ed_not (a.ok h1)
  | _ => cases h⟩
def tVal (a : SX K) : ST K := ⟨tB a.te, fun Γ => (a.ev Γ).bind fun x => match x with | .bool u => some u | _ => none, fun {Γ d} h => by
  obtain ⟨x, h1, h⟩ := bnd h
  cases x with
  | bool u => cases h; exact et_val (a.ok h1)
  | _ => cases h⟩
def tTst (a : SX K) : ST K := ⟨tTest a.te, fun Γ => (a.ev Γ).bind fun x => match x with | .bool u => some u | _ => none, fun {Γ d} h => by
  obtain ⟨x, h1, h⟩ := bnd h
  cases x with
  | bool u => cases h; exact et_test (a.ok h1)
  | _ => cases h⟩
def tNo (a : ST K) : ST K := ⟨tNot a.tt, fun Γ => (a.ev Γ).bind fun x => some (!x), fun {Γ d} h => by
  obtain ⟨x, h1, h⟩ := bnd h
  cases h
  exact et_not (a.ok h1)⟩
def tAn (a b : ST K) : ST K := ⟨tAnd a.tt b.tt, fun Γ => (a.ev Γ).bind fun x => if x = true then b.ev Γ else some false, fun {Γ d} h => by
  obtain ⟨x, h1, h⟩ := bnd h
  cases x with
  | true => exact (et_and (b := true) (a.ok h1) fun _ => b.ok h)
  | false => cases h; exact et_and (b := false) (c := false) (a.ok h1) fun z => nomatch z⟩
def tOrr (a b : ST K) : ST K := ⟨tOr a.tt b.tt, fun Γ => (a.ev Γ).bind fun x => if x = true then some true else b.ev Γ, fun {Γ d} h => by
  obtain ⟨x, h1, h⟩ := bnd h
  cases x with
  | false => exact (et_or (b := false) (a.ok h1) fun _ => b.ok h)
  | true => cases h; exact et_or (b := true) (c := false) (a.ok h1) fun z => nomatch z⟩
def tYs : ST K := ⟨tYes, fun _ => some true, fun h => by cases h; exact et_yes⟩
def sIf (t : ST K) (a b : SX K) : SX K := ⟨tIf t.tt a.te b.te, fun Γ => (t.ev Γ).bind fun c => if c = true then a.ev Γ else b.ev Γ, fun {Γ d} h => by
  obtain ⟨c, h1, h⟩ := bnd h
  refine ed_if (t.ok h1) (fun z => ?_) fun z => ?_
  · subst z; exact a.ok h
  · subst z; exact b.ok h⟩
/-! ### built-ins, calls -/
def sLen (a : SQ K) : SX K := ⟨tCB (rLenOf K) (tCons a.te tNil), fun Γ => (a.ev Γ).bind fun x => some (.int x.2.length), fun {Γ d} h => by
  obtain ⟨⟨b, xs⟩, h1, h⟩ := bnd h
  cases h
  intro Hd0 H0 σ Hd H e Q q
  refine a.ok h1 _ _ σ Hd H e _ fun l vs Hd1 H1 x1 g1 k1 d1 => ⟨l, vs, rfl, sq_b g1, ?_⟩
  rw [d1.length]
  exact q _ Hd1 H1 x1 (.int _)⟩
def sTupOf (a : SQ K) : SX K := ⟨tCB (rTupX K) (tCons a.te tNil), fun Γ => (a.ev Γ).bind fun x => some (.tuple x.2), fun {Γ d} h => by
  obtain ⟨⟨b, xs⟩, h1, h⟩ := bnd h
  cases h
  intro Hd0 H0 σ Hd H e Q q
  refine a.ok h1 _ _ σ Hd H e _ fun l vs Hd1 H1 x1 g1 k1 d1 => ?_
  cases b with
  | true => exact ⟨l, vs, rfl, .inl ⟨SqL.of g1, fun p o hp ho => q _ (upd Hd1 p (.frz o (.tup vs))) _ (x1.new hp) (.tup (Tp.new ho) (d1.mono (Ex.new (Evl.fresh_back x1.i hp))))⟩⟩
  | false => exact ⟨l, vs, rfl, .inr ⟨Tp.sq g1, q _ Hd1 H1 x1 (.tup (k1 rfl) d1)⟩⟩⟩
end
end DL

namespace DL
open PySem PySem.Spec PyProof.Rows L2
open Evl (Ex)
open RZ
section
variable {K : PySem.W.Frag}
def fListOf (a : SQ K) : SF K := ⟨tCB (rListOf K) (tCons a.te tNil), fun Γ => (a.ev Γ).bind fun x => some x.2, fun {Γ d} h => by
  obtain ⟨⟨b, xs⟩, h1, h⟩ := bnd h
  cases h
  intro Hd0 H0 σ Hd H e Q q
  refine a.ok h1 _ _ σ Hd H e _ fun l vs Hd1 H1 x1 g1 k1 d1 => ⟨l, vs, rfl, sq_b g1, fun p hp => ?_⟩
  exact q p vs Hd1 _ (x1.mut (Evl.fresh_back x1.h hp) (Evl.fresh_back x1.i hp)) (Evl.fresh_back x1.h hp) (Evl.fresh_back x1.i hp) upd_same d1⟩
/-- all are truth values -/
def bools : List PyData → Option (List Bool)
  | [] => some []
  | .bool b :: r => (bools r).bind fun bs => some (b :: bs)
  | _ => none
theorem bools_map : ∀ {ds : List PyData} {bs : List Bool}, bools ds = some bs → ds = bs.map PyData.bool
  | [], _, h => by cases h; rfl
  | .bool b :: r, bs, h => by
    obtain ⟨cs, h1, h2⟩ := bnd (f := fun bs => some (b :: bs)) h
    cases h2
    rw [bools_map h1]; rfl
def nums : List PyData → Option (List Int)
  | [] => some []
  | .int b :: r => (nums r).bind fun bs => some (b :: bs)
  | _ => none
theorem nums_map : ∀ {ds : List PyData} {bs : List Int}, nums ds = some bs → ds = bs.map PyData.int
  | [], _, h => by cases h; rfl
  | .int b :: r, bs, h => by
    obtain ⟨cs, h1, h2⟩ := bnd (f := fun bs => some (b :: bs)) h
    cases h2
    rw [nums_map h1]; rfl
def strL : List PyData → Option (List Str)
  | [] => some []
  | .str b :: r => (strL r).bind fun bs => some (b :: bs)
  | _ => none
theorem strL_map : ∀ {ds : List PyData} {bs : List Str}, strL ds = some bs → ds = bs.map PyData.str
  | [], _, h => by cases h; rfl
  | .str b :: r, bs, h => by
    obtain ⟨cs, h1, h2⟩ := bnd (f := fun bs => some (b :: bs)) h
    cases h2
    rw [strL_map h1]; rfl
def sAll (a : SQ K) : SX K := ⟨tCB (rAll K) (tCons a.te tNil), fun Γ => (a.ev Γ).bind fun x => if x.1 = true then (bools x.2).bind fun bs => some (.bool (bs.all id)) else none, fun {Γ d} h => by
  obtain ⟨⟨b, xs⟩, h1, h⟩ := bnd h
  split at h
  · rename_i z
    cases (show b = true from z)
    obtain ⟨bs, h2, h⟩ := bnd h
    cases h
    have e : xs = bs.map PyData.bool := bools_map h2
    subst e
    exact ed_all (a.ok h1).r
  · cases h⟩
def sSum (a : SQ K) : SX K := ⟨tCB (rSum K) (tCons a.te tNil), fun Γ => (a.ev Γ).bind fun x => if x.1 = true then (nums x.2).bind fun bs => some (.int bs.sum) else none, fun {Γ d} h => by
  obtain ⟨⟨b, xs⟩, h1, h⟩ := bnd h
  split at h
  · rename_i z
    cases (show b = true from z)
    obtain ⟨bs, h2, h⟩ := bnd h
    cases h
    have e : xs = bs.map PyData.int := nums_map h2
    subst e
    exact ed_sum (a.ok h1).r
  · cases h⟩
/-! ### parts of slices -/
def oNo : SO K := ⟨tNoPart, fun _ => some none, fun h => by cases h; exact eo_no⟩
def oInt (a : SX K) : SO K := ⟨tPart a.te, fun Γ => (a.ev Γ).bind fun x => match x with | .int i => some (some i) | _ => none, fun {Γ d} h => by
  obtain ⟨x, h1, h⟩ := bnd h
  cases x with
  | int i => cases h; exact eo_int (a.ok h1)
  | _ => cases h⟩
def fSl (a : SX K) (lo hi : SO K) : SF K := ⟨tSl (rSlL K) a.te lo.to hi.to, fun Γ => (a.ev Γ).bind fun x => (lo.ev Γ).bind fun l => (hi.ev Γ).bind fun u => match x with | .list ds => some (cutD ds l u) | _ => none, fun {Γ d} h => by
  obtain ⟨x, h1, h⟩ := bnd h
  obtain ⟨l, h2, h⟩ := bnd h
  obtain ⟨u, h3, h⟩ := bnd h
  cases x with
  | list ds => cases h; exact ef_sl (a.ok h1) (lo.ok h2) (hi.ok h3)
  | _ => cases h⟩
def sSlT (a : SX K) (lo hi : SO K) : SX K := ⟨tSl (rSlX K) a.te lo.to hi.to, fun Γ => (a.ev Γ).bind fun x => (lo.ev Γ).bind fun l => (hi.ev Γ).bind fun u => match x with | .tuple ds => some (.tuple (cutD ds l u)) | _ => none, fun {Γ d} h => by
  obtain ⟨x, h1, h⟩ := bnd h
  obtain ⟨l, h2, h⟩ := bnd h
  obtain ⟨u, h3, h⟩ := bnd h
  cases x with
  | tuple ds => cases h; exact ed_slT (a.ok h1) (lo.ok h2) (hi.ok h3)
  | _ => cases h⟩
/-! ### operations -/
def iI0 (g : Int → Int → V) (gd : Int → Int → PyData) (h : ∀ i j Hd, Dt K Hd (g i j) (gd i j)) : F2 K (rI0 g) := ⟨fun x y => match x, y with | .int i, .int j => some (gd i j) | _, _ => none, fun {x y z} e => by
  cases x <;> cases y <;> first | cases e | skip
  exact rd_I0 fun Hd => h _ _ Hd⟩
def oAdd : F2 K (rI0 fun i j => .int (i + j)) := iI0 _ (fun i j => .int (i + j)) fun _ _ _ => .int _
def oSub : F2 K (rI0 fun i j => .int (i - j)) := iI0 _ (fun i j => .int (i - j)) fun _ _ _ => .int _
def oLt : F2 K (rI0 fun i j => .bl (decide (i < j))) := iI0 _ (fun i j => .bool (decide (i < j))) fun _ _ _ => .bl _
def oLe : F2 K (rI0 fun i j => .bl (decide (i ≤ j))) := iI0 _ (fun i j => .bool (decide (i ≤ j))) fun _ _ _ => .bl _
def oGt : F2 K (rI0 fun i j => .bl (decide (j < i))) := iI0 _ (fun i j => .bool (decide (j < i))) fun _ _ _ => .bl _
def oGe : F2 K (rI0 fun i j => .bl (decide (j ≤ i))) := iI0 _ (fun i j => .bool (decide (j ≤ i))) fun _ _ _ => .bl _
def oMul : F2 K (rI CMul fun i j => .int (i * j)) := ⟨fun x y => match x, y with | .int i, .int j => if (-(2 ^ 64) < i ∧ i < 2 ^ 64) ∨ (-(2 ^ 64) < j ∧ j < 2 ^ 64) then some (.int (i * j)) else none | _, _ => none, fun {x y z} e => by
  cases x <;> cases y <;> first | cases e | skip
  rename_i i j
  have e : (if (-(2 ^ 64) < i ∧ i < 2 ^ 64) ∨ (-(2 ^ 64) < j ∧ j < 2 ^ 64) then some (PyData.int (i * j)) else none) = some z := e
  split at e
  · cases e; rename_i c; exact rd_I c fun _ => .int _
  · cases e⟩
def oMod : F2 K (rI (fun _ j => 0 < j) fun i j => .int (i % j)) := ⟨fun x y => match x, y with | .int i, .int j => if 0 < j then some (.int (i % j)) else none | _, _ => none, fun {x y z} e => by
  cases x <;> cases y <;> first | cases e | skip
  rename_i i j
  have e : (if 0 < j then some (PyData.int (i % j)) else none) = some z := e
  split at e
  · cases e; rename_i c; exact rd_I c fun _ => .int _
  · cases e⟩
def oEq : F2 K (rEqD K) := ⟨fun x y => if SeqAt.shaped x && SeqAt.shaped y then some (.bool (PyData.eqv x y)) else none, fun {x y z} e => by
  split at e
  · rename_i c
    rw [Bool.and_eq_true] at c
    cases e
    exact rd_eqD c.1 c.2
  · cases e⟩
def oNe : F2 K (rNeD K) := ⟨fun x y => if SeqAt.shaped x && SeqAt.shaped y then some (.bool (!PyData.eqv x y)) else none, fun {x y z} e => by
  split at e
  · rename_i c
    rw [Bool.and_eq_true] at c
    cases e
    exact rd_neD c.1 c.2
  · cases e⟩
def isNon : PyData → Bool
  | .none => true
  | _ => false
def oIsN : F2 K (fun x y H Q => y = V.non ∧ Q (V.bl (decide (x = V.non))) H) := ⟨fun x y => match y with | .none => some (.bool (isNon x)) | _ => none, fun {x y z} e => by
  cases y <;> first | cases e | skip
  have := rd_isN (K := K) (d := x)
  cases x <;> exact this⟩
def oNotN : F2 K (fun x y H Q => y = V.non ∧ Q (V.bl (!decide (x = V.non))) H) := ⟨fun x y => match y with | .none => some (.bool (!isNon x)) | _ => none, fun {x y z} e => by
  cases y <;> first | cases e | skip
  intro Hd H v w ex d1 d2 Q q
  cases d2
  refine ⟨rfl, ?_⟩
  cases d1 <;> exact q _ Hd H (.refl ex) (.bl _)⟩
def rowOf : PyData → Option (List PyData)
  | .list ds => some ds
  | .tuple ds => some ds
  | _ => none
def oIn : F2 K (rIn K false) := ⟨fun x y => match x with | .str s => (rowOf y).bind fun ds => (strL ds).bind fun ss => some (.bool (decide (s ∈ ss))) | _ => none, fun {x y z} e => by
  cases x with
  | str s =>
    obtain ⟨ds, h1, e⟩ := bnd (f := fun ds => (strL ds).bind fun ss => some (PyData.bool (decide (s ∈ ss)))) e
    obtain ⟨ss, h2, e⟩ := bnd e
    cases e
    have := strL_map h2
    subst this
    cases y with
    | list ys => cases h1; exact rd_inL
    | tuple ys => cases h1; exact rd_inT
    | _ => cases h1
  | _ => cases e⟩
def oNin : F2 K (rIn K true) := ⟨fun x y => match x with | .str s => (rowOf y).bind fun ds => (strL ds).bind fun ss => some (.bool (!decide (s ∈ ss))) | _ => none, fun {x y z} e => by
  cases x with
  | str s =>
    obtain ⟨ds, h1, e⟩ := bnd (f := fun ds => (strL ds).bind fun ss => some (PyData.bool (!decide (s ∈ ss)))) e
    obtain ⟨ss, h2, e⟩ := bnd e
    cases e
    have := strL_map h2
    subst this
    cases y with
    | list ys => cases h1; exact rd_niL
    | tuple ys => cases h1; exact rd_niT
    | _ => cases h1
  | _ => cases e⟩
def oCatS : F2 K glueR := ⟨fun x y => match x, y with | .str s, .str t => if s.length + t.length ≤ 100000 then some (.str (s ++ t)) else none | _, _ => none, fun {x y z} e => by
  cases x <;> cases y <;> first | cases e | skip
  rename_i s t
  have e : (if s.length + t.length ≤ 100000 then some (PyData.str (s ++ t)) else none) = some z := e
  split at e
  · cases e; rename_i c; exact rd_catS c
  · cases e⟩
def oCatT : F2 K (rCatX K) := ⟨fun x y => match x, y with | .tuple xs, .tuple ys => if xs.length + ys.length ≤ 100000 then some (.tuple (xs ++ ys)) else none | _, _ => none, fun {x y z} e => by
  cases x <;> cases y <;> first | cases e | skip
  rename_i xs ys
  have e : (if xs.length + ys.length ≤ 100000 then some (PyData.tuple (xs ++ ys)) else none) = some z := e
  split at e
  · cases e
    rename_i c
    intro Hd H v w ex d1 d2 Q q
    cases d1 with
    | @tup a vs _ g1 g2 =>
      cases d2 with
      | @tup b ws _ k1 k2 =>
        refine ⟨a, b, vs, ws, rfl, rfl, ((g1.mono ex).sq (K := K)), ((k1.mono ex).sq (K := K)), fits_of (by rw [g2.length, k2.length]; exact c), fun z => ?_, fun z y => ?_, fun z y p o hp ho => ?_⟩
        · subst z
          cases g2
          exact q _ Hd H (.refl ex) (.tup k1 k2)
        · subst y
          cases k2
          rw [List.append_nil] at q
          exact q _ Hd H (.refl ex) (.tup g1 g2)
        · exact q _ (upd Hd p (.frz o (.tup (vs ++ ws)))) _ ((Ext.refl ex).new hp) (.tup (Tp.new ho) ((g2.append k2).mono (Ex.new (Evl.fresh_back ex hp))))
  · cases e⟩
def fRep (a : SX K) (k : SX K) : SF K := ⟨tOp rRep a.te k.te, fun Γ => (a.ev Γ).bind fun x => (k.ev Γ).bind fun i => match x, i with | .list ds, .int i => if 0 ≤ i ∧ i ≤ 1000 ∧ ds.length ≤ 100 then some (List.replicate i.toNat ds).flatten else none | _, _ => none, fun {Γ d} h => by
  obtain ⟨x, h1, hx⟩ := bnd h
  clear h
  obtain ⟨i, h2, h⟩ := bnd hx
  clear hx
  obtain ⟨ds, i, rfl, rfl⟩ : ∃ ds j, x = .list ds ∧ i = .int j := by
    cases x <;> cases i <;> first | exact ⟨_, _, rfl, rfl⟩ | cases h
  have h : (if 0 ≤ i ∧ i ≤ 1000 ∧ ds.length ≤ 100 then some (List.replicate i.toNat ds).flatten else none) = some d := h
  by_cases c : 0 ≤ i ∧ i ≤ 1000 ∧ ds.length ≤ 100
  · rw [if_pos c] at h
    cases h
    exact ef_rep (a.ok h1) (k.ok h2) c.1 c.2.1 c.2.2
  · rw [if_neg c] at h
    cases h⟩
def sNeg (a : SX K) : SX K := ⟨tUn (rU fun i => .int (-i)) a.te, fun Γ => (a.ev Γ).bind fun x => match x with | .int i => some (.int (-i)) | _ => none, fun {Γ d} h => by
  obtain ⟨x, h1, h⟩ := bnd h
  cases x with
  | int i => cases h; exact ed_neg (a.ok h1)
  | _ => cases h⟩
/-! ### calls of defs -/
/-- the promise of a def by a function on data -/
def spF (K : PySem.W.Frag) (n : Nat) (fn : List PyData → Option PyData) : Sp := spD K n fun ds r => ds.length = n ∧ fn ds = some r
def sCall {E : XK} (n : Nat) (fn : List PyData → Option PyData) (a : SA K) : SX K := ⟨tCall (spF K n fn) [] E a.ta, fun Γ => (a.ev Γ).bind fun ds => if ds.length = n then fn ds else none, fun {Γ d} h => by
  obtain ⟨ds, h1, h⟩ := bnd h
  split at h
  · rename_i c
    exact ed_call (a.ok h1) c ⟨c, h⟩
  · cases h⟩
end
end DL

namespace DL
open PySem PySem.Spec PyProof.Rows L2
open Evl (Ex)
open RZ
/-! ### targets -/
section
variable {K : PySem.W.Frag} {vs : List Nat}
def gN (i : Nat) (h : i ∈ vs) : SG K vs := ⟨gName i, fun Γ d => some (Γ.set i (.dat d)), fun e => by cases e; exact gd_name h⟩
def gsNil : SGs K vs := ⟨gNil, fun Γ ds => match ds with | [] => some Γ | _ => none, fun {Γ Δ ds} e => by
  cases ds with
  | nil => cases e; exact gds_nil
  | cons _ _ => cases e⟩
def gsCons (g : SG K vs) (r : SGs K vs) : SGs K vs := ⟨gCons g.g r.g, fun Γ ds => match ds with | d :: es => (g.ev Γ d).bind fun Δ => r.ev Δ es | [] => none, fun {Γ Δ ds} e => by
  cases ds with
  | nil => cases e
  | cons d es =>
    obtain ⟨Θ, h1, h2⟩ := bnd (f := fun Δ => r.ev Δ es) e
    exact gds_cons (g.ok h1) (r.ok h2)⟩
def gT (n : Nat) (r : SGs K vs) : SG K vs := ⟨gTup K n r.g, fun Γ d => match d with | .tuple ds => if ds.length = n then r.ev Γ ds else none | _ => none, fun {Γ Δ d} e => by
  cases d with
  | tuple ds =>
    have e : (if ds.length = n then r.ev Γ ds else none) = some Δ := e
    split at e
    · rename_i c; exact gd_tup (r.ok e) c
    · cases e
  | _ => cases e⟩
def gS (n : Nat) (r : SGs K vs) : SG K vs := ⟨gSeq K n r.g, fun Γ d => match rowOf d with | some ds => if ds.length = n then r.ev Γ ds else none | none => none, fun {Γ Δ d} e => by
  cases d with
  | tuple ds =>
    have e : (if ds.length = n then r.ev Γ ds else none) = some Δ := e
    split at e
    · rename_i c; exact gd_seqT (r.ok e) c
    · cases e
  | list ds =>
    have e : (if ds.length = n then r.ev Γ ds else none) = some Δ := e
    split at e
    · rename_i c; exact gd_seqL (r.ok e) c
    · cases e
  | _ => cases e⟩
/-! ### what is walked -/
def iL (a : SX K) : SI K := ⟨iList K a.te, fun Γ => (a.ev Γ).bind fun x => match x with | .list ds => some ds | _ => none, fun {Γ ds} h => by
  obtain ⟨x, h1, h⟩ := bnd h
  cases x with
  | list ds => cases h; exact ei_list (a.ok h1)
  | _ => cases h⟩
def iT (a : SX K) : SI K := ⟨iTup K a.te, fun Γ => (a.ev Γ).bind fun x => match x with | .tuple ds => some ds | _ => none, fun {Γ ds} h => by
  obtain ⟨x, h1, h⟩ := bnd h
  cases x with
  | tuple ds => cases h; exact ei_tup (a.ok h1)
  | _ => cases h⟩
def iQ (a : SX K) : SI K := ⟨iSeq K a.te, fun Γ => (a.ev Γ).bind rowOf, fun {Γ ds} h => by
  obtain ⟨x, h1, h⟩ := bnd h
  cases x with
  | list ds => cases h; exact ei_seqL (a.ok h1)
  | tuple ds => cases h; exact ei_seqT (a.ok h1)
  | _ => cases h⟩
def iSt (a : SX K) : SI K := ⟨iStr a.te, fun Γ => (a.ev Γ).bind fun x => match x with | .str s => some (s.cps.toList.map fun c => .str ⟨#[c]⟩) | _ => none, fun {Γ ds} h => by
  obtain ⟨x, h1, h⟩ := bnd h
  cases x with
  | str s => cases h; exact ei_str (a.ok h1)
  | _ => cases h⟩
def iRg (a : SA K) : SI K := ⟨iRng1 a.ta, fun Γ => (a.ev Γ).bind fun x => match x with | [.int n] => if n ≤ 100000 ∧ -100000 ≤ n then some ((List.range n.toNat).map fun (k : Nat) => .int (k : Int)) else none | _ => none, fun {Γ ds} h => by
  obtain ⟨x, h1, h⟩ := bnd h
  split at h
  · split at h
    · rename_i c
      cases h
      exact ei_rng1 (a.ok h1) c.1 c.2
    · cases h
  · cases h⟩
/-! ### list comprehensions -/
def lcItem (g : SG K vs) (t : ST K) (e : SX K) (Γ : List G) (d : PyData) : Option (Option PyData) := (g.ev (wipeG Γ vs) d).bind fun Δ => (t.ev Δ).bind fun b => if b = true then (e.ev Δ).bind fun y => some (some y) else some none
end
def lcGo (item : PyData → Option (Option PyData)) : List PyData → Option (List PyData)
  | [] => some []
  | d :: r => (item d).bind fun o => (lcGo item r).bind fun ys => match o with
    | some y => some (y :: ys)
    | none => some ys
def lcP (item : PyData → Option (Option PyData)) (d : PyData) : Bool := match item d with | some (some _) => true | _ => false
def lcF (item : PyData → Option (Option PyData)) (d : PyData) : PyData := match item d with | some (some y) => y | _ => .none
theorem lcGo_spec {item : PyData → Option (Option PyData)} : ∀ {ds ys : List PyData}, lcGo item ds = some ys → (∀ d ∈ ds, ∃ o, item d = some o) ∧ ys = (ds.filter (lcP item)).map (lcF item)
  | [], _, h => by cases h; exact ⟨(fun _ z => nomatch z), rfl⟩
  | d :: r, ys, h => by
    obtain ⟨o, h1, hx⟩ := bnd h
    clear h
    obtain ⟨zs, h2, h⟩ := bnd hx
    clear hx
    obtain ⟨i1, i2⟩ := lcGo_spec h2
    refine ⟨fun e he => (List.mem_cons.mp he).elim (fun z => ⟨o, z ▸ h1⟩) (i1 e), ?_⟩
    cases o with
    | none =>
      cases h
      rw [List.filter_cons, if_neg (by unfold lcP; rw [h1]; exact Bool.false_ne_true)]
      exact i2
    | some y =>
      cases h
      rw [List.filter_cons, if_pos (by unfold lcP; rw [h1]), List.map_cons, ← i2]
      congr 1
      unfold lcF
      rw [h1]
section
variable {K : PySem.W.Frag}
def fLc (it : SI K) (vs : List Nat) (g : SG K vs) (t : ST K) (e : SX K) : SF K := ⟨tLc it.wi g.g t.tt e.te vs, fun Γ => (it.ev Γ).bind fun ds => if ds.length ≤ 100000 then lcGo (lcItem g t e Γ) ds else none, fun {Γ ys} h => by
  obtain ⟨ds, h1, h⟩ := bnd h
  split at h
  · rename_i c
    obtain ⟨i1, rfl⟩ := lcGo_spec h
    refine ef_lc (it.ok h1) c fun d hd => ?_
    obtain ⟨o, ho⟩ := i1 d hd
    have ho' := ho
    obtain ⟨Δ, g1, hx⟩ := bnd ho
    clear ho
    obtain ⟨b, g2, ho⟩ := bnd hx
    clear hx
    refine ⟨Δ, g.ok g1, ?_⟩
    cases b with
    | false =>
      cases ho
      have ep : lcP (lcItem g t e Γ) d = false := by unfold lcP; rw [ho']
      rw [ep]
      exact ⟨t.ok g2, fun z => nomatch z⟩
    | true =>
      obtain ⟨y, g3, ho⟩ := bnd (f := fun y => some (some y)) ho
      cases ho
      have ep : lcP (lcItem g t e Γ) d = true := by unfold lcP; rw [ho']
      have ef : lcF (lcItem g t e Γ) d = y := by unfold lcF; rw [ho']
      rw [ep, ef]
      exact ⟨t.ok g2, fun _ => e.ok g3⟩
  · cases h⟩
/-! ### statements -/
structure SS (K : PySem.W.Frag) where
  ts : TS
  ev : List G → Option Out
  ok : ∀ {Γ : List G} {o : Out}, ev Γ = some o → SD K ts Γ o
def pNext : SS K := ⟨tNext, fun Γ => some (.nx Γ), fun h => by cases h; exact sd_next⟩
def pSeq (s r : SS K) : SS K := ⟨tSeq s.ts r.ts, fun Γ => (s.ev Γ).bind fun o => match o with | .nx Δ => r.ev Δ | .rt d => some (.rt d), fun {Γ o} h => by
  obtain ⟨o1, h1, h⟩ := bnd h
  cases o1 with
  | nx Δ => exact sd_seq (s.ok h1) (r.ok h)
  | rt d => cases h; exact sd_seqR (s.ok h1)⟩
def pSet (i : Nat) (e : SX K) : SS K := ⟨tAsg e.te (gName i), fun Γ => (e.ev Γ).bind fun d => some (.nx (Γ.set i (.dat d))), fun {Γ o} h => by
  obtain ⟨d, h1, h⟩ := bnd h
  cases h
  exact sd_set (e.ok h1)⟩
def pTgt {vs : List Nat} (g : SG K vs) (e : SX K) : SS K := ⟨tAsg e.te g.g, fun Γ => (e.ev Γ).bind fun d => (g.ev Γ d).bind fun Δ => some (.nx Δ), fun {Γ o} h => by
  obtain ⟨d, h1, hx⟩ := bnd h
  clear h
  obtain ⟨Δ, h2, h⟩ := bnd hx
  cases h
  exact sd_asg (e.ok h1) (g.ok h2)⟩
def pOwn (i : Nat) (e : SF K) : SS K := ⟨tAsg e.te (gName i), fun Γ => (e.ev Γ).bind fun ds => some (.nx (Γ.set i (.own ds))), fun {Γ o} h => by
  obtain ⟨d, h1, h⟩ := bnd h
  cases h
  exact sd_own (e.ok h1)⟩
def pApp (i : Nat) (e : SX K) : SS K := ⟨tDrop (tBM K "list" rAppend (tVar i) (tCons e.te tNil)), fun Γ => match Γ[i]? with | some (.own ds) => (e.ev Γ).bind fun d => if ds.length < 100000 then some (.nx (Γ.set i (.own (ds ++ [d])))) else none | _ => none, fun {Γ o} h => by
  split at h
  · rename_i ds hi
    obtain ⟨d, h1, h⟩ := bnd h
    split at h
    · rename_i c; cases h; exact sd_app hi (e.ok h1) c
    · cases h
  · cases h⟩
def pFrz (i : Nat) (s : SS K) : SS K := ⟨s.ts, fun Γ => match Γ[i]? with | some (.own ds) => s.ev (Γ.set i (.dat (.list ds))) | _ => s.ev Γ, fun {Γ o} h => by
  split at h
  · rename_i ds hi; exact sd_freeze hi (s.ok h)
  · exact s.ok h⟩
def pRet (e : SX K) : SS K := ⟨tRet e.te, fun Γ => (e.ev Γ).bind fun d => some (.rt d), fun {Γ o} h => by
  obtain ⟨d, h1, h⟩ := bnd h
  cases h
  exact sd_ret (e.ok h1)⟩
def pIf (t : ST K) (a b : SS K) : SS K := ⟨tIfS t.tt a.ts b.ts, fun Γ => (t.ev Γ).bind fun c => if c = true then a.ev Γ else b.ev Γ, fun {Γ o} h => by
  obtain ⟨c, h1, h⟩ := bnd h
  refine sd_if (t.ok h1) (fun z => ?_) fun z => ?_
  · subst z; exact a.ok h
  · subst z; exact b.ok h⟩
def pParD (i j : Nat) (a b : SX K) : SS K := ⟨tPar i j (tCons a.te (tCons b.te tNil)), fun Γ => (a.ev Γ).bind fun x => (b.ev Γ).bind fun y => some (.nx ((Γ.set i (.dat x)).set j (.dat y))), fun {Γ o} h => by
  obtain ⟨x, h1, hx⟩ := bnd h
  clear h
  obtain ⟨y, h2, h⟩ := bnd hx
  cases h
  intro Hd0 H0 σ Hd H e D q
  refine a.ok h1 _ _ σ Hd H e _ fun v Hd1 H1 x1 d1 => b.ok h2 _ _ σ Hd1 H1 (e.ext x1) _ fun w Hd2 H2 x2 d2 => ⟨v, w, rfl, ?_⟩
  exact q _ Hd2 H2 ((((e.ext x1).ext x2).set (d1.mono x2.d)).set d2) (x1.d.trans x2.d)⟩
def pAug (i : Nat) (f : Int → Int → Int) (e : SX K) : SS K := ⟨tAug i e.te (ipI f), fun Γ => match Γ[i]? with | some (.dat (.int a)) => (e.ev Γ).bind fun y => (match y with | .int b => some (.nx (Γ.set i (.dat (.int (f a b))))) | _ => none) | _ => none, fun {Γ o} h => by
  split at h
  · rename_i a hi
    obtain ⟨y, h1, h⟩ := bnd h
    cases y with
    | int b =>
      cases h
      intro Hd0 H0 σ Hd H en D q
      obtain ⟨v, s1, d1⟩ := en.dat hi
      cases d1
      refine ⟨_, s1, e.ok h1 _ _ σ Hd H en _ fun w Hd1 H1 x1 d2 => ?_⟩
      cases d2
      exact ⟨a, b, rfl, rfl, q _ Hd1 H1 ((en.ext x1).set (.int _)) x1.d⟩
    | _ => cases h
  · cases h⟩
def forGo (st : PyData → List G → Option Out) : List PyData → List G → Option Out
  | [], Γ => some (.nx Γ)
  | d :: r, Γ => (st d Γ).bind fun o => match o with
    | .nx Θ => forGo st r Θ
    | .rt v => some (.rt v)
theorem sd_forG {wi : TI} {g : TG} {tbody : TS} {Γ : List G} {ds : List PyData} {o : Out} (st : PyData → List G → Option Out) (hs : ∀ d Γ o, st d Γ = some o → ∃ Δ vs, GD K g Γ d vs Δ ∧ SD K tbody Δ o) (hi : EI K wi Γ ds) (hg : forGo st ds Γ = some o) : SD K (tFor wi g tbody) Γ o := fun Hd0 H0 σ Hd H e D q =>
  hi _ _ σ Hd H e _ fun J Hd1 H1 x1 ok => by
    refine ⟨fun k m σ' H' => m = ds.length - k ∧ k ≤ ds.length ∧ ∃ Hd' Γk, Ex Hd1 Hd' ∧ En K Hd0 H0 Γk σ' Hd' H' ∧ forGo st (ds.drop k) Γk = some o, ⟨ds.length, rfl, Nat.zero_le _, Hd1, Γ, .refl _, e.ext x1, by rw [List.drop_zero]; exact hg⟩, ?_⟩
    rintro k m σ' H' ⟨rfl, hk, Hd', Γk, xd, en, hgo⟩
    obtain ⟨stp, go⟩ := ok Hd' H' xd en.x.i
    by_cases hlt : k < ds.length
    · have hd : ds[k]? = some ds[k] := by simp [hlt]
      obtain ⟨gi, yl⟩ := go k _ hd
      rw [List.drop_eq_getElem_cons hlt] at hgo
      obtain ⟨o1, h1, hgo⟩ := bnd hgo
      obtain ⟨Δ, vs, hgd, hsd⟩ := hs _ _ _ h1
      refine .inr ⟨gi, fun σ'' H'' => ∃ Hd'' Γk', Ex Hd1 Hd'' ∧ En K Hd0 H0 Γk' σ'' Hd'' H'' ∧ forGo st (ds.drop (k + 1)) Γk' = some o, fun σ'' H'' w => ⟨ds.length - (k + 1), by omega, rfl, hlt, w⟩, fun x H2 y2 => ?_⟩
      obtain ⟨Hd2, x2, d2⟩ := yl x H2 y2
      refine hgd _ _ σ' Hd2 H2 x (en.ext x2) d2 _ fun σ2 e2 _ => hsd _ _ σ2 Hd2 H2 e2 _ ?_
      cases o1 with
      | nx Θ => exact fun σ3 Hd3 H3 e3 x3 => ⟨Hd3, Θ, xd.trans (x2.d.trans x3), e3, hgo⟩
      | rt v =>
        cases hgo
        exact q
    · have ek : k = ds.length := by omega
      subst ek
      rw [List.drop_length] at hgo
      cases hgo
      exact .inl ⟨stp, q σ' Hd' H' en (x1.d.trans xd)⟩
def pFor {vs : List Nat} (it : SI K) (g : SG K vs) (body : SS K) : SS K := ⟨tFor it.wi g.g body.ts, fun Γ => (it.ev Γ).bind fun ds => forGo (fun d Γ => (g.ev Γ d).bind fun Δ => body.ev Δ) ds Γ, fun {Γ o} h => by
  obtain ⟨ds, h1, h⟩ := bnd h
  refine sd_forG _ (fun d Γ o hst => ?_) (it.ok h1) h
  obtain ⟨Δ, g1, g2⟩ := bnd hst
  exact ⟨Δ, vs, g.ok g1, body.ok g2⟩⟩
/-! ### a def's run -/
def runF (N : List Str) (s : SS K) (ds : List PyData) : Option PyData := (s.ev (startG N ds)).bind fun o => match o with
  | .rt d => some d
  | .nx _ => some .none
theorem run_ok {N : List Str} {s : SS K} {vs : List V} {ds : List PyData} {Hd H : Hp} {Q : VK} {r : PyData} (e : Ex Hd H) (h : DtA K Hd vs ds) (hr : runF N s ds = some r) (q : ∀ v Hd' H', Ext Hd H Hd' H' → Dt K Hd' v r → Q v H') :
    s.ts { nx := fun _ H' => Q .non H', rt := Q } (L2.start N vs) H := by
  obtain ⟨o, h1, h2⟩ := bnd hr
  refine s.ok h1 _ _ _ _ _ (start_en e h) _ ?_
  cases o with
  | rt d => cases h2; exact q
  | nx Θ => cases h2; exact fun σ' Hd' H' en _ => q .non Hd' H' en.x .non
end
section
variable {P : Program} {w : World} {K : PySem.W.Frag} {mg : Str → Option Value} {base : Heap}
/-- a def whose body is s -/
theorem ok_fn {x : Str} {ps N : List Str} {st : Stmt} {k n : Nat} (X : Tx K mg x ps st) (S : FnScope N ps (defScope st)) (hn : ps.length = n) (s : SS K)
    (hb : ∀ (f : Addr) (cdv : Value) (A : Around) (outer : List Env) (s' : Shared) (H : Hp) (E : XK), Room k (A.deeper (envOfC x (defScope st) s'.heap.objs.size f cdv)) → PSs (cxOf CX0 P w K mg base N x (defScope st) f cdv A outer s' H E).nox (defBody st) s.ts) :
    Df P w K mg base (k + 1) x ps (spF K n (runF N s)) :=
  X.ok S (fun vs H Q E h => h.1.trans hn.symm) fun f cdv A outer s' H vs Q E hr h => by
    obtain ⟨hl, Hd, ds, r, e, hd, ⟨hl2, hr2⟩, q⟩ := h
    exact ⟨_, hb f cdv A outer s' H E hr, run_ok e hd hr2 q⟩
end
end DL

namespace DL
open PySem PySem.Spec PyProof.Rows L2
open Evl (Ex)
open RZ
/-! ### a dict that is walked is locked -/
mutual
/-- no dict within -/
def noDict : PyData → Bool
  | .list xs => noDictA xs
  | .tuple xs => noDictA xs
  | .dict _ => false
  | _ => true
def noDictA : List PyData → Bool
  | [] => true
  | x :: xs => noDict x && noDictA xs
end
def noDictV (kvs : List (PyData × PyData)) : Bool := kvs.all fun p => noDict p.2
def kindN : PyData → Nat
  | .none => 0
  | .bool _ => 1
  | .int _ => 2
  | .str _ => 3
  | .list _ => 4
  | .tuple _ => 5
  | .dict _ => 6
def headN (kvs : List (PyData × PyData)) : Option Nat := kvs.head?.map fun p => kindN p.2
/-- two dicts that can't be one -/
def difD (kvs lvs : List (PyData × PyData)) : Bool := decide (kvs.length ≠ lvs.length) || decide (headN kvs ≠ headN lvs)
section
variable {K : PySem.W.Frag} {Hd H Hd0 H0 : Hp} {a : Addr} {u o : HO} {Γ : List G} {σ : L2.St}
def openO : HO → Bool
  | .lst _ => false
  | .tup _ => false
  | .frz _ (.tup _) => false
  | _ => true
theorem open_frz {od : Obj} (h : openO u = true) : openO (.frz od u) = true := by
  cases u <;> first | rfl | cases h
theorem open_ne {b : Addr} {x : HO} (hu : openO u = true) (ha : Hd a = some u) (hb : Hd b = some x) (hx : openO x = false) : b ≠ a := fun z => by
  subst z
  rw [ha] at hb
  cases hb
  rw [hu] at hx
  cases hx
mutual
theorem dt_lk (hu : openO u = true) (ha : Hd a = some u) : ∀ {v : V} {d : PyData}, noDict d = true → Dt K Hd v d → Dt K (upd Hd a o) v d
  | _, _, _, .non => .non
  | _, _, _, .bl b => .bl b
  | _, _, _, .int i => .int i
  | _, _, _, .str s => .str s
  | _, _, n, .lst h1 h2 => .lst (by rw [upd_ne (open_ne hu ha h1 rfl)]; exact h1) (dta_lk hu ha n h2)
  | _, _, n, .tup h1 h2 => .tup (by obtain ⟨ob, h1, h3⟩ := h1; exact ⟨ob, by rw [upd_ne (open_ne hu ha h1 rfl)]; exact h1, h3⟩) (dta_lk hu ha n h2)
  | _, _, n, .dct _ _ => nomatch n
  | _, _, n, .dctT _ _ _ => nomatch n
theorem dta_lk (hu : openO u = true) (ha : Hd a = some u) : ∀ {vs : List V} {ds : List PyData}, noDictA ds = true → DtA K Hd vs ds → DtA K (upd Hd a o) vs ds
  | _, _, _, .nil => .nil
  | _, _, n, .cons h1 h2 => .cons (dt_lk hu ha (Bool.and_eq_true_iff.mp n).1 h1) (dta_lk hu ha (Bool.and_eq_true_iff.mp n).2 h2)
end
theorem dtk_lk (hu : openO u = true) (ha : Hd a = some u) : ∀ {ks : List (Key × V)} {kvs : List (PyData × PyData)}, noDictV kvs = true → DtK K Hd ks kvs → DtK K (upd Hd a o) ks kvs
  | _, _, _, .nil => .nil
  | _, _, n, .cons h1 h2 => .cons (dt_lk hu ha (Bool.and_eq_true_iff.mp n).1 h1) (dtk_lk hu ha (Bool.and_eq_true_iff.mp n).2 h2)
theorem dtt_lk (hu : openO u = true) (ha : Hd a = some u) : ∀ {ks : List (List Key × V)} {kvs : List (PyData × PyData)}, noDictV kvs = true → DtT K Hd ks kvs → DtT K (upd Hd a o) ks kvs
  | _, _, _, .nil => .nil
  | _, _, n, .cons h1 h2 => .cons (dt_lk hu ha (Bool.and_eq_true_iff.mp n).1 h1) (dtt_lk hu ha (Bool.and_eq_true_iff.mp n).2 h2)
theorem dtd_lk (hu : openO u = true) (ha : Hd a = some u) {w : HO} {kvs : List (PyData × PyData)} (n : noDictV kvs = true) (h : DtD K Hd w kvs) : DtD K (upd Hd a o) w kvs :=
  h.elim (fun ⟨ks, e, q⟩ => .inl ⟨ks, e, dtk_lk hu ha n q⟩) fun ⟨ks, e, q⟩ => .inr ⟨ks, e, dtt_lk hu ha n q⟩
theorem dt_kind : ∀ {v : V} {d e : PyData}, Dt K Hd v d → Dt K Hd v e → kindN d = kindN e
  | _, _, _, .non, h => by cases h; rfl
  | _, _, _, .bl b, h => by cases h; rfl
  | _, _, _, .int i, h => by cases h; rfl
  | _, _, _, .str s, h => by cases h; rfl
  | _, _, _, .lst h1 h2, h => by
    cases h with
    | lst _ _ => rfl
    | tup g _ => obtain ⟨_, g, _⟩ := g; rw [h1] at g; cases g
    | dct g _ => rw [h1] at g; cases g
    | dctT g _ _ => rw [h1] at g; cases g
  | _, _, _, .tup h1 h2, h => by
    obtain ⟨_, h1, _⟩ := h1
    cases h with
    | tup _ _ => rfl
    | lst g _ => rw [h1] at g; cases g
    | dct g _ => rw [h1] at g; cases g
    | dctT g _ _ => rw [h1] at g; cases g
  | _, _, _, .dct h1 h2, h => by
    cases h with
    | dct _ _ => rfl
    | dctT _ _ _ => rfl
    | lst g _ => rw [h1] at g; cases g
    | tup g _ => obtain ⟨_, g, _⟩ := g; rw [h1] at g; cases g
  | _, _, _, .dctT h1 h2 _, h => by
    cases h with
    | dct _ _ => rfl
    | dctT _ _ _ => rfl
    | lst g _ => rw [h1] at g; cases g
    | tup g _ => obtain ⟨_, g, _⟩ := g; rw [h1] at g; cases g
theorem dtk_len' : ∀ {ks : List (Key × V)} {kvs : List (PyData × PyData)}, DtK K Hd ks kvs → ks.length = kvs.length
  | _, _, .nil => rfl
  | _, _, .cons _ h => by rw [List.length_cons, List.length_cons, dtk_len' h]
theorem dtt_len : ∀ {ks : List (List Key × V)} {kvs : List (PyData × PyData)}, DtT K Hd ks kvs → ks.length = kvs.length
  | _, _, .nil => rfl
  | _, _, .cons _ h => by rw [List.length_cons, List.length_cons, dtt_len h]
theorem dtd_dif {w : HO} {kvs lvs : List (PyData × PyData)} (h : DtD K Hd w kvs) (g : DtD K Hd w lvs) : difD kvs lvs = false := by
  have e : kvs.length = lvs.length ∧ headN kvs = headN lvs := by
    rcases h with ⟨ks, rfl, q⟩ | ⟨ks, rfl, q⟩
    · rcases g with ⟨ks', e, r⟩ | ⟨ks', e, r⟩
      · cases e
        refine ⟨(dtk_len' q).symm.trans (dtk_len' r), ?_⟩
        cases q with
        | nil => cases r; rfl
        | cons q1 _ => cases r with
          | cons r1 _ => exact congrArg some (dt_kind q1 r1)
      · cases e
    · rcases g with ⟨ks', e, r⟩ | ⟨ks', e, r⟩
      · cases e
      · cases e
        refine ⟨(dtt_len q).symm.trans (dtt_len r), ?_⟩
        cases q with
        | nil => cases r; rfl
        | cons q1 _ => cases r with
          | cons r1 _ => exact congrArg some (dt_kind q1 r1)
  unfold difD
  rw [e.1, e.2]
  simp
/-- a dict among the data, by its contents -/
theorem Dt.dd {kvs : List (PyData × PyData)} {v : V} (h : Dt K Hd v (.dict kvs)) : ∃ b w, v = .ref b ∧ Hd b = some w ∧ DtD K Hd w kvs ∧ openO w = true ∧ Mut (some w) ∧ (∀ ks, w = .dT ks → kvs ≠ []) := by
  cases h with
  | dct h1 h2 => exact ⟨_, _, rfl, h1, .inl ⟨_, rfl, h2⟩, rfl, trivial, fun _ z => nomatch z⟩
  | dctT h1 h2 h3 => exact ⟨_, _, rfl, h1, .inr ⟨_, rfl, h2⟩, rfl, trivial, fun _ _ => h3⟩
/-- what stays known of a slot while another dict is locked -/
def lockS (kvs : List (PyData × PyData)) : G → G
  | .dat (.dict lvs) => if noDictV lvs && difD kvs lvs then .dat (.dict lvs) else .any
  | .dat d => if noDict d then .dat d else .any
  | .own ds => if noDictA ds then .own ds else .any
  | .val v => .val v
  | _ => .any
def lockG (kvs : List (PyData × PyData)) (i : Nat) (Γ : List G) : List G := (Γ.map (lockS kvs)).set i (.lck kvs)
/-- present things at a are replaced -/
def lkH (H : Hp) (a : Addr) (o : HO) : Hp := fun b => if b = a then (H a).map fun _ => o else H b
theorem lkH_ne {b : Addr} (h : b ≠ a) : lkH H a o b = H b := by unfold lkH; rw [if_neg h]
theorem lkH_some (h : H a = some u) : lkH H a o = upd H a o := by
  funext b
  unfold lkH upd
  by_cases z : b = a
  · rw [if_pos z, if_pos z, h]; rfl
  · rw [if_neg z, if_neg z]
theorem lk_ext {A B C D : Hp} (x : Ext A B C D) (hc : C a = some u) : Ext (lkH A a o) (lkH B a o) (upd C a o) (upd D a o) := by
  have hd := x.i _ _ hc
  refine ⟨fun b p h => ?_, fun b p h => ?_, fun b p h => ?_, fun b p h1 h2 => ?_⟩
  · by_cases z : b = a
    · subst z
      unfold lkH at h
      rw [if_pos rfl] at h
      cases e : A b with
      | none => rw [e] at h; cases h
      | some q => rw [e] at h; cases h; exact upd_same
    · rw [lkH_ne z] at h
      rw [upd_ne z]
      exact x.d _ _ h
  · by_cases z : b = a
    · subst z
      unfold lkH at h
      rw [if_pos rfl] at h
      cases e : B b with
      | none => rw [e] at h; cases h
      | some q => rw [e] at h; cases h; exact upd_same
    · rw [lkH_ne z] at h
      rw [upd_ne z]
      exact x.h _ _ h
  · by_cases z : b = a
    · subst z; rw [upd_same] at h ⊢; exact h
    · rw [upd_ne z] at h ⊢; exact x.i _ _ h
  · by_cases z : b = a
    · subst z
      unfold lkH at h1 h2
      rw [if_pos rfl] at h1 h2
      cases e : A b with
      | some q => rw [e] at h1; cases h1
      | none =>
        cases e2 : B b with
        | none => rw [e2] at h2; cases h2
        | some q =>
          have := x.f _ _ e e2
          rw [hc] at this
          cases this
    · rw [lkH_ne z] at h1 h2
      rw [upd_ne z]
      exact x.f _ _ h1 h2
theorem lk_back {A B C D : Hp} (x : Ext (upd A a o) (upd B a o) C D) (ha : A a = some u) (hb : B a = some u) : Ext A B (upd C a u) (upd D a u) := by
  refine ⟨fun b p h => ?_, fun b p h => ?_, fun b p h => ?_, fun b p h1 h2 => ?_⟩
  · by_cases z : b = a
    · subst z; rw [ha] at h; cases h; exact upd_same
    · rw [upd_ne z]; exact x.d _ _ (by rw [upd_ne z]; exact h)
  · by_cases z : b = a
    · subst z; rw [hb] at h; cases h; exact upd_same
    · rw [upd_ne z]; exact x.h _ _ (by rw [upd_ne z]; exact h)
  · by_cases z : b = a
    · subst z; rw [upd_same] at h ⊢; exact h
    · rw [upd_ne z] at h ⊢; exact x.i _ _ h
  · have z : b ≠ a := fun z => by subst z; rw [ha] at h1; cases h1
    rw [upd_ne z]
    exact x.f b p (by rw [upd_ne z]; exact h1) (by rw [upd_ne z]; exact h2)
theorem lock_en (e : En K Hd0 H0 Γ σ Hd H) {i : Nat} {kvs : List (PyData × PyData)} (hi : Γ[i]? = some (.dat (.dict kvs))) (nk : noDictV kvs = true) : ∃ a u, σ[i]? = some (some (.ref a)) ∧ Hd a = some u ∧ H a = some u ∧ Mut (some u) ∧ openO u = true ∧
    ∀ od, En K (lkH Hd0 a (.frz od u)) (lkH H0 a (.frz od u)) (lockG kvs i Γ) σ (upd Hd a (.frz od u)) (upd H a (.frz od u)) := by
  obtain ⟨v, s1, d1⟩ := e.dat hi
  obtain ⟨a, u, rfl, ha, dd, ou, mu, _⟩ := d1.dd
  refine ⟨a, u, s1, ha, e.x.i _ _ ha, mu, ou, fun od => ⟨lk_ext e.x ha, by simp [lockG, e.l], fun j g hg => ?_, fun j k ds es w hjk g1 g2 => ?_⟩⟩
  · by_cases z : i = j
    · subst z
      have q := get_set_eq hg
      subst q
      exact ⟨a, od, u, s1, upd_same, dtd_lk ou ha nk dd⟩
    · unfold lockG at hg
      rw [List.getElem?_set_ne z, List.getElem?_map] at hg
      cases hj : Γ[j]? with
      | none => rw [hj] at hg; cases hg
      | some g0 =>
        rw [hj] at hg
        have q := e.g j g0 hj
        cases g0 with
        | any => cases hg; trivial
        | val v => cases hg; exact q
        | lck lvs => cases hg; trivial
        | ownD _ lvs => cases hg; trivial
        | own ds =>
          have hg : (if noDictA ds = true then G.own ds else .any) = g := Option.some.inj hg
          split at hg
          · rename_i nd
            subst hg
            obtain ⟨b, vs, k1, k0, k2, k3, k4⟩ := q
            have nb : b ≠ a := fun z => by subst z; rw [ha] at k2; cases k2
            exact ⟨b, vs, k1, by rw [lkH_ne nb]; exact k0, by rw [upd_ne nb]; exact k2, by rw [upd_ne nb]; exact k3, dta_lk ou ha nd k4⟩
          · subst hg; trivial
        | dat d =>
          obtain ⟨v, k1, k2⟩ := q
          have flat : noDict d = true → GOk K (lkH H0 a (.frz od u)) σ (upd Hd a (.frz od u)) (upd H a (.frz od u)) j (.dat d) := fun nd => ⟨v, k1, dt_lk ou ha nd k2⟩
          cases d with
          | dict lvs =>
            have hg : (if (noDictV lvs && difD kvs lvs) = true then G.dat (.dict lvs) else .any) = g := Option.some.inj hg
            split at hg
            · rename_i nd
              subst hg
              rw [Bool.and_eq_true] at nd
              refine ⟨v, k1, ?_⟩
              obtain ⟨b, w, rfl, hb, db, _, _, ne⟩ := k2.dd
              have nb : b ≠ a := fun z => by
                subst z
                rw [ha] at hb
                cases hb
                have := dtd_dif dd db
                rw [nd.2] at this
                cases this
              have hb' : (upd Hd a (.frz od u)) b = some w := by rw [upd_ne nb]; exact hb
              rcases dtd_lk (o := .frz od u) ou ha nd.1 db with ⟨ks, rfl, q⟩ | ⟨ks, rfl, q⟩
              · exact .dct hb' q
              · exact .dctT hb' q (ne ks rfl)
            · subst hg; trivial
          | none => cases hg; exact flat rfl
          | bool _ => cases hg; exact flat rfl
          | int _ => cases hg; exact flat rfl
          | str _ => cases hg; exact flat rfl
          | list ds =>
            have hg : (if noDict (.list ds) = true then G.dat (.list ds) else .any) = g := Option.some.inj hg
            split at hg
            · rename_i nd; subst hg; exact flat nd
            · subst hg; trivial
          | tuple ds =>
            have hg : (if noDict (.tuple ds) = true then G.dat (.tuple ds) else .any) = g := Option.some.inj hg
            split at hg
            · rename_i nd; subst hg; exact flat nd
            · subst hg; trivial
  · have aux : ∀ (m : Nat) (l : List PyData), (lockG kvs i Γ)[m]? = some (G.own l) → Γ[m]? = some (G.own l) := fun m l hm => by
      unfold lockG at hm
      by_cases z : i = m
      · subst z; exact nomatch get_set_eq hm
      · rw [List.getElem?_set_ne z, List.getElem?_map] at hm
        cases hj : Γ[m]? with
        | none => rw [hj] at hm; cases hm
        | some g0 =>
          rw [hj] at hm
          have hm : lockS kvs g0 = G.own l := Option.some.inj hm
          cases g0 with
          | own ds =>
            simp only [lockS] at hm
            split at hm
            · cases hm; rfl
            · cases hm
          | dat d =>
            cases d <;> simp only [lockS] at hm <;> (try split at hm) <;> cases hm
          | _ => cases hm
    exact e.o j k ds es w hjk (aux j _ g1) (aux k _ g2)
end
end DL

namespace DL
open PySem PySem.Spec PyProof.Rows L2
open Evl (Ex)
open RZ
/-- te gives a dict that can be read -/
def EDk (K : PySem.W.Frag) (te : TE) (Γ : List G) (kvs : List (PyData × PyData)) : Prop := ∀ Hd0 H0 σ Hd H, En K Hd0 H0 Γ σ Hd H → ∀ Q : VK, (∀ a u Hd' H', Ext Hd H Hd' H' → Rd H' a u → DtD K Hd' u kvs → Q (.ref a) H') → te σ H Q
/-- te gives a new dict -/
def EDf (K : PySem.W.Frag) (te : TE) (Γ : List G) (kvs : List (PyData × PyData)) : Prop := ∀ Hd0 H0 σ Hd H, En K Hd0 H0 Γ σ Hd H → ∀ Q : VK, (∀ a ks Hd' H', Ext Hd H Hd' H' → H a = none → Hd' a = none → H' a = some (.dK ks) → DtK K Hd' ks kvs → Q (.ref a) H') → te σ H Q
structure SDk (K : PySem.W.Frag) where
  te : TE
  ev : List G → Option (List (PyData × PyData))
  ok : ∀ {Γ : List G} {kvs : List (PyData × PyData)}, ev Γ = some kvs → EDk K te Γ kvs
structure SDf (K : PySem.W.Frag) where
  te : TE
  ev : List G → Option (List (PyData × PyData))
  ok : ∀ {Γ : List G} {kvs : List (PyData × PyData)}, ev Γ = some kvs → EDf K te Γ kvs
section
variable {K : PySem.W.Frag}
def dVar (i : Nat) : SDk K := ⟨tVar i, fun Γ => match Γ[i]? with | some (.dat (.dict kvs)) => some kvs | some (.lck kvs) => some kvs | some (.ownD _ kvs) => some kvs | _ => none, fun {Γ kvs} h => by
  intro Hd0 H0 σ Hd H e Q q
  split at h
  · rename_i hi
    cases h
    obtain ⟨v, s1, d1⟩ := e.dat hi
    obtain ⟨a, u, rfl, ha, dd, _⟩ := d1.dd
    exact ⟨_, s1, q a u Hd H (.refl e.x.i) (.inl (e.x.i _ _ ha)) dd⟩
  · rename_i hi
    cases h
    obtain ⟨a, o, u, s1, ha, dd⟩ := e.g i _ hi
    exact ⟨_, s1, q a u Hd H (.refl e.x.i) (.inr ⟨o, e.x.i _ _ ha⟩) dd⟩
  · rename_i hi
    cases h
    obtain ⟨a, u, s1, _, _, ha, dd⟩ := e.g i _ hi
    exact ⟨_, s1, q a u Hd H (.refl e.x.i) (.inl ha) dd.d⟩
  · cases h⟩
def SX.d (x : SX K) : SDk K := ⟨x.te, fun Γ => (x.ev Γ).bind fun d => match d with | .dict kvs => some kvs | _ => none, fun {Γ kvs} h => by
  obtain ⟨d, h1, h⟩ := bnd h
  cases d with
  | dict lvs =>
    cases h
    intro Hd0 H0 σ Hd H e Q q
    refine x.ok h1 _ _ σ Hd H e _ fun v Hd1 H1 x1 d1 => ?_
    obtain ⟨a, u, rfl, ha, dd, _⟩ := d1.dd
    exact q a u Hd1 H1 x1 (.inl (x1.i _ _ ha)) dd
  | _ => cases h⟩
theorem dtd_val {Hd : Hp} {u : HO} {kvs : List (PyData × PyData)} {x : Str} {d : PyData} {H : Hp} {a : Addr} (h : DtD K Hd u kvs) (hr : Rd H a u) (hl : lookD kvs x = some d) : ∃ v, DGet H a (.str x) (some v) ∧ Dt K Hd v d := by
  rcases h with ⟨ks, rfl, q⟩ | ⟨ks, rfl, q⟩
  · unfold lookD at hl
    obtain ⟨p, hp, rfl⟩ := Option.map_eq_some_iff.mp hl
    have ek := find_key hp
    obtain ⟨k, d⟩ := p
    simp only at ek
    subst ek
    obtain ⟨v, e1, e2⟩ := DtK.val q hp
    exact ⟨v, .inl ⟨ks, Sum.inr x, hr, rfl, e1.symm⟩, e2⟩
  · rw [no_look q] at hl
    cases hl
def sDGet (d : SDk K) (k : SX K) : SX K := ⟨tDGet d.te k.te, fun Γ => (d.ev Γ).bind fun kvs => (k.ev Γ).bind fun y => match y with | .str x => lookD kvs x | _ => none, fun {Γ r} h => by
  obtain ⟨kvs, h1, hx⟩ := bnd h
  clear h
  obtain ⟨y, h2, h⟩ := bnd hx
  clear hx
  cases y with
  | str x =>
    intro Hd0 H0 σ Hd H e Q q
    refine d.ok h1 _ _ σ Hd H e _ fun a u Hd1 H1 x1 hr dd => k.ok h2 _ _ σ Hd1 H1 (e.ext x1) _ fun w Hd2 H2 x2 d2 => ?_
    cases d2
    obtain ⟨v, g1, g2⟩ := dtd_val (dd.mono x2.d) (Evl.ex_rd x2.h hr) h
    exact ⟨a, v, rfl, g1, q v Hd2 H2 (x1.trans x2) g2⟩
  | _ => cases h⟩
def sDIn (k : SX K) (d : SDk K) : SX K := ⟨tDIn k.te d.te, fun Γ => (k.ev Γ).bind fun y => (d.ev Γ).bind fun kvs => match y with | .str x => if (strKeys kvs && !kvs.isEmpty) = true then some (.bool (lookD kvs x).isSome) else none | _ => none, fun {Γ r} h => by
  obtain ⟨y, h1, hx⟩ := bnd h
  clear h
  obtain ⟨kvs, h2, h⟩ := bnd hx
  clear hx
  cases y with
  | str x =>
    have h : (if (strKeys kvs && !kvs.isEmpty) = true then some (PyData.bool (lookD kvs x).isSome) else none) = some r := h
    by_cases c : (strKeys kvs && !kvs.isEmpty) = true
    · rw [if_pos c] at h
      cases h
      intro Hd0 H0 σ Hd H e Q q
      refine k.ok h1 _ _ σ Hd H e _ fun w Hd1 H1 x1 d1 => d.ok h2 _ _ σ Hd1 H1 (e.ext x1) _ fun a u Hd2 H2 x2 hr dd => ?_
      cases d1
      rcases dd with ⟨ks, rfl, g⟩ | ⟨ks, rfl, g⟩
      · refine ⟨a, valV ks (.inr x : Key), rfl, .inl ⟨ks, Sum.inr x, hr, rfl, rfl⟩, ?_⟩
        have eb : (valV ks (.inr x : Key)).isSome = (lookD kvs x).isSome := by
          unfold lookD
          cases hf : kvs.find? (fun p => match p.1 with | .str y => decide (y = x) | _ => false) with
          | none => rw [DtK.noval g hf]; rfl
          | some p =>
            obtain ⟨k', d'⟩ := p
            have ek := find_key hf
            simp only at ek
            subst ek
            obtain ⟨v, e1, _⟩ := DtK.val g hf
            rw [e1]
            rfl
        rw [eb]
        exact q _ Hd2 H2 (x1.trans x2) (.bl _)
      · cases g with
        | nil => simp at c
        | cons _ _ => simp [strKeys] at c
    · rw [if_neg c] at h
      cases h
  | _ => cases h⟩
/-! ### new dicts -/
def dcGo (item : PyData → Option (Str × PyData)) : List PyData → Option (List (Str × PyData))
  | [] => some []
  | d :: r => (item d).bind fun o => (dcGo item r).bind fun ys => some (o :: ys)
theorem dcGo_spec {item : PyData → Option (Str × PyData)} : ∀ {ds : List PyData} {ys : List (Str × PyData)}, dcGo item ds = some ys → Paired (fun d p => item d = some p) ds ys
  | [], _, h => by cases h; exact .nil
  | d :: r, ys, h => by
    obtain ⟨o, h1, hx⟩ := bnd h
    clear h
    obtain ⟨zs, h2, h⟩ := bnd hx
    cases h
    exact .cons h1 (dcGo_spec h2)
def dcItem {vs : List Nat} (g : SG K vs) (k v : SX K) (Γ : List G) (d : PyData) : Option (Str × PyData) := (g.ev (wipeG Γ vs) d).bind fun Δ => (k.ev Δ).bind fun y => (v.ev Δ).bind fun z => match y with | .str x => some (x, z) | _ => none
def toD (ys : List (Str × PyData)) : List (PyData × PyData) := ys.map fun p => (.str p.1, p.2)
/-- {k: v for .. in ..}, the keys texts, no one twice -/
def dfC (it : SI K) (vs : List Nat) (g : SG K vs) (k v : SX K) : SDf K := ⟨tDc it.wi g.g tYes k.te v.te vs, fun Γ => (it.ev Γ).bind fun ds => (dcGo (dcItem g k v Γ) ds).bind fun ys => if ds.length ≤ 100000 ∧ (ys.map (·.1)).Nodup then some (toD ys) else none, fun {Γ kvs} h => by
  obtain ⟨ds, h1, hx⟩ := bnd h
  clear h
  obtain ⟨ys, h2, h⟩ := bnd hx
  clear hx
  have pr := dcGo_spec h2
  by_cases c : ds.length ≤ 100000 ∧ (ys.map (·.1)).Nodup
  · rw [if_pos c] at h
    cases h
    have hl := pr.length
    intro Hd0 H0 σ Hd H e Q q
    refine it.ok h1 _ _ σ Hd H e _ fun J Hd1 H1 x1 ok D hD => ?_
    have nD : H D = none := Evl.fresh_back x1.h hD
    have nD1 : Hd1 D = none := Evl.fresh_back x1.i hD
    refine ⟨fun i m G => m = ds.length - i ∧ i ≤ ds.length ∧ ∃ Hd2 acc, Ext Hd1 H1 Hd2 G ∧ Hd2 D = none ∧ G D = some (.dK acc) ∧ DtK K Hd2 acc (toD (ys.take i)),
      ⟨ds.length, rfl, Nat.zero_le _, Hd1, [], (Ext.refl x1.i).mut hD nD1, nD1, upd_same, .nil⟩, ?_⟩
    rintro i m G ⟨rfl, hle, Hd2, acc, x2, n2, a2, t2⟩
    obtain ⟨st, go⟩ := ok Hd2 G x2.d x2.i
    by_cases hlt : i < ds.length
    · have hd : ds[i]? = some ds[i] := by simp [hlt]
      obtain ⟨gi, yl⟩ := go i _ hd
      refine .inr ⟨gi, fun G' => ∃ Hd2 acc, Ext Hd1 H1 Hd2 G' ∧ Hd2 D = none ∧ G' D = some (.dK acc) ∧ DtK K Hd2 acc (toD (ys.take (i + 1))), fun G' w => ⟨ds.length - (i + 1), by omega, rfl, hlt, w⟩, fun x H3 y3 => ?_⟩
      obtain ⟨Hd3, x3, d3⟩ := yl x H3 y3
      obtain ⟨⟨n, z⟩, hy, hit⟩ := pairGet pr hd
      obtain ⟨Δ, hg, hx⟩ := bnd hit
      clear hit
      obtain ⟨kd, hk, hz⟩ := bnd hx
      clear hx
      obtain ⟨zd, hv, hit⟩ := bnd hz
      clear hz
      obtain ⟨rfl, rfl⟩ : kd = .str n ∧ zd = z := by
        cases kd <;> first | (cases hit; exact ⟨rfl, rfl⟩) | cases hit
      have x13 := x2.trans x3
      have n3 : Hd3 D = none := x3.f _ _ n2 a2
      have a3 := x3.h _ _ a2
      refine g.ok hg _ _ _ Hd3 H3 x ((e.ext (x1.trans x13)).wipe vs) d3 _ fun σ2 e2 w2 => ⟨w2.trans (wipe_wipe fun _ z => z), ?_⟩
      refine et_yes _ _ σ2 Hd3 H3 e2 _ fun Hd6 H6 x6 => iteT (k.ok hk _ _ σ2 Hd6 H6 (e2.ext x6) _ fun y Hd4 H4 x4' d4 => v.ok hv _ _ σ2 Hd4 H4 ((e2.ext x6).ext x4') _ fun u Hd5 H5 x5 d5 => ?_)
      have x4 := x6.trans x4'
      cases d4
      have n5 : Hd5 D = none := x5.f _ _ (x4.f _ _ n3 a3) (x4.h _ _ a3)
      have a5 := x5.h _ _ (x4.h _ _ a3)
      have hnew : ∀ p ∈ toD (ys.take i), p.1 ≠ .str n := fun p hp eq => by
        obtain ⟨w, hw, rfl⟩ := List.mem_map.mp hp
        have eu : w.1 = n := PyData.str.inj eq
        obtain ⟨j, hj1, hj2⟩ := List.mem_take_iff_getElem.mp hw
        have hj3 : (ys.map (·.1))[j]? = some n := by rw [List.getElem?_map, List.getElem?_eq_getElem (by omega), hj2, Option.map_some, eu]
        have hi3 : (ys.map (·.1))[i]? = some n := by rw [List.getElem?_map, hy]; rfl
        have := nd_ix c.2 hj3 hi3
        omega
      have t5 := dtk_mono (x3.d.trans (x4.d.trans x5.d)) t2
      have hlen := dtk_len t5
      rw [toD, List.length_map, List.length_take] at hlen
      refine ⟨acc, .inr n, rfl, a5, Nat.lt_of_lt_of_le (by omega : acc.length < 100000) (by decide : 100000 ≤ sizeLine), Hd5, acc ++ [(.inr n, u)], (x13.trans (x4.trans x5)).mut hD n5, n5, ?_, ?_⟩
      · rw [upd_same]
        unfold putK
        rw [if_neg (by rw [dtk_any t5 hnew]; exact Bool.false_ne_true)]
      · rw [List.take_add_one, hy]
        unfold toD
        rw [List.map_append]
        exact dtk_snoc t5 d5
    · have ei : i = ds.length := by omega
      subst ei
      rw [hl, List.take_length] at t2
      exact .inl ⟨st, q D acc Hd2 G (x1.trans x2) nD n2 a2 t2⟩
  · rw [if_neg c] at h
    cases h⟩
def SDf.x (a : SDf K) : SX K := ⟨a.te, fun Γ => (a.ev Γ).bind fun kvs => some (.dict kvs), fun {Γ d} h => by
  obtain ⟨kvs, h1, h⟩ := bnd h
  cases h
  intro Hd0 H0 σ Hd H e Q q
  exact a.ok h1 _ _ σ Hd H e _ fun D ks Hd1 H1 x1 n1 n2 g1 d1 => q _ (upd Hd1 D (.dK ks)) H1 (x1.take n1 n2 g1) (.dct upd_same (dtk_mono (Ex.new n2) d1))⟩
/-- the keys of the locked dict -/
def iK (i : Nat) : SI K := ⟨iKeys (tVar i), fun Γ => match Γ[i]? with | some (.lck kvs) => if (strKeys kvs && !kvs.isEmpty) = true then some (kvs.map (·.1)) else none | _ => none, fun {Γ ds} h => by
  split at h
  · rename_i kvs hi
    by_cases c : (strKeys kvs && !kvs.isEmpty) = true
    · rw [if_pos c] at h
      cases h
      intro Hd0 H0 σ Hd H e R q
      obtain ⟨a, o, u, s1, ha, dd⟩ := e.g i _ hi
      rcases dd with ⟨ks, rfl, g⟩ | ⟨ks, rfl, g⟩
      · refine ⟨_, s1, a, o, rfl, .inl ⟨ks, e.x.i _ _ ha, q _ Hd H (.refl e.x.i) fun Hd' H' e1 e2 => ?_⟩⟩
        have hl := dtk_len g
        have h' := e2 _ _ (e1 _ _ ha)
        refine ⟨⟨h', by rw [List.length_map, hl]; exact Nat.le_refl _⟩, fun j d hd => ?_⟩
        rw [List.getElem?_map] at hd
        obtain ⟨p, hp, rfl⟩ := Option.map_eq_some_iff.mp hd
        have hj : j < ks.length := by
          have := (List.getElem?_eq_some_iff.mp hp).1
          omega
        refine ⟨⟨h', hj⟩, fun x H'' ⟨eH, k, v, hk, ex⟩ => ?_⟩
        subst eH
        refine ⟨Hd', .refl e2, ?_⟩
        have key : ∀ {ks : List (Key × V)} {kvs : List (PyData × PyData)} {j : Nat} {k : Key} {v : V} {p : PyData × PyData}, DtK K Hd ks kvs → ks[j]? = some (k, v) → kvs[j]? = some p → Dt K Hd' (kV k) p.1 := by
          intro ks
          induction ks with
          | nil => intro kvs j k v p _ h; simp at h
          | cons y ks ih =>
            intro kvs j k v p g h1 h2
            cases g with
            | cons g1 g2 =>
              cases j with
              | zero => cases h1; cases h2; exact .str _
              | succ j => exact ih g2 (by simpa using h1) (by simpa using h2)
        rw [ex]
        exact key g hk hp
      · cases g with
        | nil => simp at c
        | cons _ _ => simp [strKeys] at c
    · rw [if_neg c] at h
      cases h
  · cases h⟩
/-! ### what is done while a dict is locked -/
def sLock (i : Nat) (x : SX K) : SX K := ⟨tLockE x.te, fun Γ => match Γ[i]? with | some (.dat (.dict kvs)) => if noDictV kvs = true then (x.ev (lockG kvs i Γ)).bind fun d => if noDict d = true then some d else none else none | _ => none, fun {Γ d} h => by
  split at h
  · rename_i kvs hi
    by_cases c : noDictV kvs = true
    · rw [if_pos c] at h
      obtain ⟨d1, h1, h⟩ := bnd h
      by_cases c2 : noDict d1 = true
      · rw [if_pos c2] at h
        cases h
        intro Hd0 H0 σ Hd H e Q q
        obtain ⟨a, u, s1, ha, hb, mu, ou, en⟩ := lock_en e hi c
        refine ⟨a, u, hb, mu, fun od => x.ok h1 _ _ σ _ _ (en od) _ fun v Hd3 H3 x3 d3 => ?_⟩
        have f3 := x3.h _ _ (upd_same (H := H) (a := a) (o := .frz od u))
        have g3 := x3.d _ _ (upd_same (H := Hd) (a := a) (o := .frz od u))
        exact ⟨f3, q v _ _ (lk_back x3 ha hb) (dt_lk (open_frz ou) g3 c2 d3)⟩
      · rw [if_neg c2] at h
        cases h
    · rw [if_neg c] at h
      cases h
  · cases h⟩
def fLock (i : Nat) (x : SF K) : SF K := ⟨tLockE x.te, fun Γ => match Γ[i]? with | some (.dat (.dict kvs)) => if noDictV kvs = true then (x.ev (lockG kvs i Γ)).bind fun d => if noDictA d = true then some d else none else none | _ => none, fun {Γ d} h => by
  split at h
  · rename_i kvs hi
    by_cases c : noDictV kvs = true
    · rw [if_pos c] at h
      obtain ⟨d1, h1, h⟩ := bnd h
      by_cases c2 : noDictA d1 = true
      · rw [if_pos c2] at h
        cases h
        intro Hd0 H0 σ Hd H e Q q
        obtain ⟨a, u, s1, ha, hb, mu, ou, en⟩ := lock_en e hi c
        refine ⟨a, u, hb, mu, fun od => x.ok h1 _ _ σ _ _ (en od) _ fun p vs Hd3 H3 x3 n3 m3 k3 d3 => ?_⟩
        have f3 := x3.h _ _ (upd_same (H := H) (a := a) (o := .frz od u))
        have g3 := x3.d _ _ (upd_same (H := Hd) (a := a) (o := .frz od u))
        have np : p ≠ a := fun z => by subst z; rw [upd_same] at n3; cases n3
        rw [upd_ne np] at n3
        exact ⟨f3, q p vs _ _ (lk_back x3 ha hb) n3 (by rw [upd_ne np]; exact m3) (by rw [upd_ne np]; exact k3) (dta_lk (open_frz ou) g3 c2 d3)⟩
      · rw [if_neg c2] at h
        cases h
    · rw [if_neg c] at h
      cases h
  · cases h⟩
def dfLock (i : Nat) (x : SDf K) : SDf K := ⟨tLockE x.te, fun Γ => match Γ[i]? with | some (.dat (.dict kvs)) => if noDictV kvs = true then (x.ev (lockG kvs i Γ)).bind fun d => if noDictV d = true then some d else none else none | _ => none, fun {Γ d} h => by
  split at h
  · rename_i kvs hi
    by_cases c : noDictV kvs = true
    · rw [if_pos c] at h
      obtain ⟨d1, h1, h⟩ := bnd h
      by_cases c2 : noDictV d1 = true
      · rw [if_pos c2] at h
        cases h
        intro Hd0 H0 σ Hd H e Q q
        obtain ⟨a, u, s1, ha, hb, mu, ou, en⟩ := lock_en e hi c
        refine ⟨a, u, hb, mu, fun od => x.ok h1 _ _ σ _ _ (en od) _ fun p ks Hd3 H3 x3 n3 m3 k3 d3 => ?_⟩
        have f3 := x3.h _ _ (upd_same (H := H) (a := a) (o := .frz od u))
        have g3 := x3.d _ _ (upd_same (H := Hd) (a := a) (o := .frz od u))
        have np : p ≠ a := fun z => by subst z; rw [upd_same] at n3; cases n3
        rw [upd_ne np] at n3
        exact ⟨f3, q p ks _ _ (lk_back x3 ha hb) n3 (by rw [upd_ne np]; exact m3) (by rw [upd_ne np]; exact k3) (dtk_lk (open_frz ou) g3 c2 d3)⟩
      · rw [if_neg c2] at h
        cases h
    · rw [if_neg c] at h
      cases h
  · cases h⟩
end
end DL

namespace DL
open PySem PySem.Spec PyProof.Rows L2
open Evl (Ex)
open RZ
section
variable {K : PySem.W.Frag} {Hd0 H0 Hd H : Hp} {Γ : List G} {σ : L2.St}
/-- a new dict that the def keeps for itself -/
theorem En.setOwnD (e : En K Hd0 H0 Γ σ Hd H) {i : Nat} {a : Addr} {u : HO} {kvs : List (PyData × PyData)} (n0 : H0 a = none) (n1 : Hd a = none) {b : Bool} (h : H a = some u) (hd : DtDb K b Hd u kvs) : En K Hd0 H0 (Γ.set i (.ownD b kvs)) (σ.set i (some (.ref a))) Hd H := by
  refine ⟨e.x, by simp [e.l], fun j g hg => ?_, fun j k fs es w hjk h1 h2 => ?_⟩
  · by_cases z : i = j
    · subst z
      have q := get_set_eq hg
      subst q
      have hi : i < Γ.length := by
        have := (List.getElem?_eq_some_iff.mp hg).1
        simpa using this
      exact ⟨a, u, by simp [e.l ▸ hi], n0, n1, h, hd⟩
    · rw [List.getElem?_set_ne z] at hg
      have q := e.g j g hg
      cases g with
      | any => trivial
      | val v => show (σ.set i _)[j]? = _; rw [List.getElem?_set_ne z]; exact q
      | dat d => obtain ⟨v, h1, h2⟩ := q; exact ⟨v, by rw [List.getElem?_set_ne z]; exact h1, h2⟩
      | own ds => obtain ⟨a, vs, h1, h2⟩ := q; exact ⟨a, vs, by rw [List.getElem?_set_ne z]; exact h1, h2⟩
      | lck ds => obtain ⟨a, o, u, h1, h2⟩ := q; exact ⟨a, o, u, by rw [List.getElem?_set_ne z]; exact h1, h2⟩
      | ownD _ ds => obtain ⟨a, vs, h1, h2⟩ := q; exact ⟨a, vs, by rw [List.getElem?_set_ne z]; exact h1, h2⟩
  · have nj : i ≠ j := fun z => by subst z; exact nomatch get_set_eq h1
    have nk : i ≠ k := fun z => by subst z; exact nomatch get_set_eq h2
    rw [List.getElem?_set_ne nj] at h1 ⊢
    rw [List.getElem?_set_ne nk] at h2 ⊢
    exact e.o j k fs es w hjk h1 h2
/-- the only own dict is changed -/
theorem En.changeD (e : En K Hd0 H0 Γ σ Hd H) {i : Nat} {a : Addr} {u u' : HO} {kvs lvs : List (PyData × PyData)} {b b' : Bool} (hi : Γ[i]? = some (.ownD b kvs)) (one : ∀ j c lvs, Γ[j]? = some (.ownD c lvs) → j = i) (s1 : σ[i]? = some (some (.ref a))) (n0 : H0 a = none) (n1 : Hd a = none) (h : H a = some u) (hu : openO u = true) (hd : DtDb K b' Hd u' lvs) :
    En K Hd0 H0 (Γ.set i (.ownD b' lvs)) σ Hd (upd H a u') := by
  refine ⟨e.x.mut n0 n1, by simp [e.l], fun j g hg => ?_, fun j k fs es w hjk h1 h2 => ?_⟩
  · by_cases z : i = j
    · subst z
      have q := get_set_eq hg
      subst q
      exact ⟨a, u', s1, n0, n1, upd_same, hd⟩
    · rw [List.getElem?_set_ne z] at hg
      have q := e.g j g hg
      cases g with
      | any => trivial
      | val v => exact q
      | dat d => exact q
      | lck lvs => exact q
      | ownD c lvs => exact absurd (one j _ _ hg) (fun y => z y.symm)
      | own ds =>
        obtain ⟨b, vs, k1, k0, k2, k3, k4⟩ := q
        have nb : b ≠ a := open_ne hu h k3 rfl
        exact ⟨b, vs, k1, k0, k2, by rw [upd_ne nb]; exact k3, k4⟩
  · have nj : i ≠ j := fun z => by subst z; exact nomatch get_set_eq h1
    have nk : i ≠ k := fun z => by subst z; exact nomatch get_set_eq h2
    rw [List.getElem?_set_ne nj] at h1
    rw [List.getElem?_set_ne nk] at h2
    exact e.o j k fs es w hjk h1 h2
/-- an own dict becomes data -/
theorem En.frzD (e : En K Hd0 H0 Γ σ Hd H) {i : Nat} {kvs : List (PyData × PyData)} {b : Bool} (hi : Γ[i]? = some (.ownD b kvs)) (one : ∀ j c lvs, Γ[j]? = some (.ownD c lvs) → j = i) (ne : kvs ≠ []) : ∃ Hd', Ex Hd Hd' ∧ En K Hd0 H0 (Γ.set i (.dat (.dict kvs))) σ Hd' H := by
  obtain ⟨a, u, s1, n0, n1, h1, d1⟩ := e.g i _ hi
  have d1 := d1.d
  have ou : openO u = true := by rcases d1 with ⟨_, rfl, _⟩ | ⟨_, rfl, _⟩ <;> rfl
  refine ⟨upd Hd a u, Ex.new n1, e.x.take n0 n1 h1, by simp [e.l], fun j g hg => ?_, fun j k fs es w hjk g1 g2 => ?_⟩
  · by_cases z : i = j
    · subst z
      have q := get_set_eq hg
      subst q
      rcases d1 with ⟨ks, rfl, q⟩ | ⟨ks, rfl, q⟩
      · exact ⟨_, s1, .dct upd_same (DtK.mono (Ex.new n1) q)⟩
      · exact ⟨_, s1, .dctT upd_same (DtT.mono (Ex.new n1) q) ne⟩
    · rw [List.getElem?_set_ne z] at hg
      have q := e.g j g hg
      cases g with
      | any => trivial
      | val v => exact q
      | dat d => obtain ⟨v, k1, k2⟩ := q; exact ⟨v, k1, k2.mono (Ex.new n1)⟩
      | own es =>
        obtain ⟨b, vs, k1, k0, k2, k3, k4⟩ := q
        have nb : b ≠ a := open_ne ou h1 k3 rfl
        exact ⟨b, vs, k1, k0, by rw [upd_ne nb]; exact k2, k3, k4.mono (Ex.new n1)⟩
      | lck es => obtain ⟨b, o, u, k1, k2, k3⟩ := q; exact ⟨b, o, u, k1, Ex.new n1 _ _ k2, k3.mono (Ex.new n1)⟩
      | ownD c lvs => exact absurd (one j _ _ hg) (fun y => z y.symm)
  · have nj : i ≠ j := fun z => by subst z; exact nomatch get_set_eq g1
    have nk : i ≠ k := fun z => by subst z; exact nomatch get_set_eq g2
    rw [List.getElem?_set_ne nj] at g1
    rw [List.getElem?_set_ne nk] at g2
    exact e.o j k fs es w hjk g1 g2
/-- slot i is the only own dict -/
def oneD (Γ : List G) (i : Nat) : Bool := (List.range Γ.length).all fun j => decide (j = i) || (match Γ[j]? with | some g => g.noD | none => true)
theorem oneD_of {i : Nat} (h : oneD Γ i = true) : ∀ j c lvs, Γ[j]? = some (.ownD c lvs) → j = i := fun j c lvs hj => by
  have := List.all_eq_true.mp h j (List.mem_range.mpr (List.getElem?_eq_some_iff.mp hj).1)
  rw [hj] at this
  simpa [G.noD] using this
def putD (kvs : List (PyData × PyData)) (x : Str) (d : PyData) : List (PyData × PyData) := if (lookD kvs x).isSome then kvs.map fun p => if (match p.1 with | .str y => decide (y = x) | _ => false) = true then (.str x, d) else p else kvs ++ [(.str x, d)]
theorem dtk_map {x : Str} {v : V} {d : PyData} (hv : Dt K Hd v d) : ∀ {ks : List (Key × V)} {kvs : List (PyData × PyData)}, DtK K Hd ks kvs → DtK K Hd (ks.map fun kv => if kv.1 = (.inr x : Key) then (kv.1, v) else kv) (kvs.map fun p => if (match p.1 with | .str y => decide (y = x) | _ => false) = true then (PyData.str x, d) else p)
  | _, _, .nil => .nil
  | _, _, @DtK.cons _ _ y w ks e kvs h1 h2 => by
    rw [List.map_cons, List.map_cons]
    by_cases z : y = x
    · subst z
      simp only [decide_true, if_true]
      exact .cons hv (dtk_map hv h2)
    · have z1 : ¬ ((Sum.inr y : Key) = Sum.inr x) := fun q => z (Sum.inr.inj q)
      simp only [z1, decide_eq_false z, if_false, Bool.false_eq_true]
      exact .cons h1 (dtk_map hv h2)
theorem putK_same {x : Str} {v : V} {d : PyData} {ks : List (Key × V)} {kvs : List (PyData × PyData)} (h : DtK K Hd ks kvs) (hv : Dt K Hd v d) : DtK K Hd (putK ks (.inr x) v) (putD kvs x d) := by
  have e : (ks.any fun kv => decide (kv.1 = (.inr x : Key))) = (lookD kvs x).isSome := by
    unfold lookD
    cases hf : kvs.find? (fun p => match p.1 with | .str y => decide (y = x) | _ => false) with
    | none =>
      have := dtk_any (x := x) h fun p hp z => by
        have := List.find?_eq_none.mp hf p hp
        rw [z] at this
        simp at this
      rw [this]; rfl
    | some p =>
      obtain ⟨k', d'⟩ := p
      have ek := find_key hf
      simp only at ek
      subst ek
      obtain ⟨w, e1, _⟩ := DtK.val h hf
      have : ∀ {ks : List (Key × V)}, valV ks (.inr x : Key) = some w → (ks.any fun kv => decide (kv.1 = (.inr x : Key))) = true := by
        intro ks
        induction ks with
        | nil => intro q; cases q
        | cons y ks ih =>
          intro q
          rw [List.any_cons]
          by_cases z : y.1 = .inr x
          · rw [z]; simp
          · have q' : valV ks (.inr x : Key) = some w := by
              obtain ⟨y1, y2⟩ := y
              rw [valV_neg z] at q
              exact q
            rw [ih q']; simp
      rw [this e1]; rfl
  unfold putK putD
  rw [← e]
  cases hb : ks.any fun kv => decide (kv.1 = (.inr x : Key)) with
  | true =>
    rw [if_pos rfl, if_pos rfl]
    exact dtk_map hv h
  | false =>
    rw [if_neg Bool.false_ne_true, if_neg Bool.false_ne_true]
    exact dtk_snoc h hv
end
section
variable {K : PySem.W.Frag}
def pOwnD (i : Nat) (e : SDf K) : SS K := ⟨tAsg e.te (gName i), fun Γ => (e.ev Γ).bind fun kvs => some (.nx (Γ.set i (.ownD false kvs))), fun {Γ o} h => by
  obtain ⟨kvs, h1, h⟩ := bnd h
  cases h
  intro Hd0 H0 σ Hd H e1 D q
  exact e.ok h1 _ _ σ Hd H e1 _ fun a ks Hd1 H1 x1 n1 n2 g1 d1 => q _ Hd1 H1 ((e1.ext x1).setOwnD (b := false) (Evl.fresh_back e1.x.h n1) n2 g1 ⟨ks, rfl, d1⟩) x1.d⟩
/-- d[k] = v, the own dict d with texts for keys, not empty -/
def pDSet (i : Nat) (k v : SX K) : SS K := ⟨tAsg v.te (gSub (tVar i) k.te rSetD), fun Γ => match Γ[i]? with | some (.ownD false kvs) => ((v.ev Γ).bind fun d => (k.ev Γ).bind fun y => match y with | .str x => if (oneD Γ i && decide (kvs.length < 100000)) = true then some (.nx (Γ.set i (.ownD false (putD kvs x d)))) else none | _ => none) | _ => none, fun {Γ o} h => by
  split at h
  · rename_i kvs hi
    obtain ⟨d, h1, hx⟩ := bnd h
    clear h
    obtain ⟨y, h2, h⟩ := bnd hx
    clear hx
    cases y with
    | str x =>
      have h : (if (oneD Γ i && decide (kvs.length < 100000)) = true then some (Out.nx (Γ.set i (.ownD false (putD kvs x d)))) else none) = some o := h
      by_cases c : (oneD Γ i && decide (kvs.length < 100000)) = true
      · rw [if_pos c] at h
        cases h
        simp only [Bool.and_eq_true, decide_eq_true_eq] at c
        obtain ⟨c1, c4⟩ := c
        intro Hd0 H0 σ Hd H e D q
        refine v.ok h1 _ _ σ Hd H e _ fun v Hd1 H1 x1 d1 => ?_
        have e1 := e.ext x1
        obtain ⟨a, u, s1, _⟩ := e1.g i _ hi
        refine ⟨_, s1, k.ok h2 _ _ σ Hd1 H1 e1 _ fun w Hd2 H2 x2 d2 => ?_⟩
        cases d2
        have e2 := e1.ext x2
        obtain ⟨b, u, s2, n0, n1, g1, dd⟩ := e2.g i _ hi
        rw [s1] at s2
        cases s2
        have one := oneD_of c1
        obtain ⟨ks, rfl, g⟩ := dd
        refine ⟨a, _, rfl, DPut.k (k := Sum.inr x) g1 (Nat.lt_of_lt_of_le (by rw [dtk_len g]; exact c4) (by decide : 100000 ≤ sizeLine)), ?_⟩
        exact q _ Hd2 _ (e2.changeD (b' := false) hi one s1 n0 n1 g1 rfl ⟨_, rfl, putK_same g (d1.mono x2.d)⟩) (x1.d.trans x2.d)
      · rw [if_neg c] at h
        cases h
    | _ => cases h
  · cases h⟩
def pFrzD (i : Nat) (s : SS K) : SS K := ⟨s.ts, fun Γ => match Γ[i]? with | some (.ownD _ kvs) => if (oneD Γ i && !kvs.isEmpty) = true then s.ev (Γ.set i (.dat (.dict kvs))) else none | _ => s.ev Γ, fun {Γ o} h => by
  split at h
  · rename_i kvs hi
    by_cases c : (oneD Γ i && !kvs.isEmpty) = true
    · rw [if_pos c] at h
      rw [Bool.and_eq_true] at c
      intro Hd0 H0 σ Hd H e D q
      obtain ⟨Hd', x, en⟩ := e.frzD hi (oneD_of c.1) (fun z => by rw [z] at c; exact absurd c.2 (by decide))
      exact s.ok h _ _ σ Hd' H en D (q.mono x)
    · rw [if_neg c] at h
      cases h
  · exact s.ok h⟩
end
end DL

namespace DL
open PySem PySem.Spec PyProof.Rows L2
open Evl (Ex)
open RZ
/-! ### own errors over any built-in error, with an __init__ of their own -/
structure OwnE (K : PySem.W.Frag) (C : Addr) (B newId initId : String) (bmB : List Value) : Prop where
  base : ExcBaseFacts B newId initId bmB
  st : StoreFacts B bmB "object.__setattr__" "object"
  made : PySem.W.excInitIn K C bmB newId = true
  ov : PySem.W.excOver K C bmB = true
  sa : PySem.W.findIn K (.ref C) "__setattr__" = some (some (.builtin "object.__setattr__"))
  hd : PySem.W.hasDictIn K C = true
  kC : PySem.W.keepIn K (.ref C) = true
section
variable {X : Cx} {pins : List (Addr × Obj)} {σ : L2.St} {H : Hp} {s : Shared} {a C dx : Addr} {f : Str} {y : V} {u : Value} {B newId initId : String} {bmB : List Value} {Q : Unit → Shared → Prop} {E : Value → Shared → Prop} {A : Around}
/-- self.f = y, the first field -/
theorem own_first (T : OwnE X.K C B newId initId bmB) (I : Inv X pins σ H s) (e : H a = some (exo a C none)) (ht : PySem.W.takerIn X.K C f = some none) (ry : RelV y u)
    (q : ∀ dx s', H dx = none → dx ≠ a → Inv X pins σ (upd (upd H dx (exd dx [(f, y)])) a (exo a C (some dx))) s' → Q () s') : wpAny (model X.prog X.w) A (setAttr (.ref a) f u) Q E s := by
  obtain ⟨t1, ho⟩ := exo_at I.hok e
  obtain ⟨cd, hc, hdict⟩ := PySem.W.any_some T.hd
  refine PySem.W.set_plain (od := none) I.kIn ⟨ho, rfl, rfl, trivial⟩ T.sa ?_
  refine PySem.W.osa_openX (od := none) T.st I.kIn ⟨ho, rfl, rfl, trivial⟩ T.ov ht fun b => ?_
  refine wpAny_bind (wpAny_pure (wpAny_bind (PySem.W.instanceDict_exc ho (PySem.W.looks_clsIn I.kIn hc) hdict ?_)))
  show wpAny _ _ (Builtin.ObjectAttr.storeInDict s.heap.objs.size (.str f _) f u) _ _ _
  refine HandSPX.store_in_new ?_ fun g tk dict only => ?_
  · exact ⟨_, #[], 0, (Heap.get?_update_ne _ _ _ _ (Nat.ne_of_gt (Heap.lt_size ho))).trans (Heap.get?_push_size _ rfl), rfl, (fun x hx => by simp at hx), fun _ => rfl⟩
  have old : ∀ {b : Addr} {o : Obj}, s.heap.get? b = some o → b ≠ s.heap.objs.size := fun h => Nat.ne_of_lt (Heap.lt_size h)
  have rest : ∀ b o, b ≠ a → s.heap.get? b = some o → g.get? b = some o := fun b o nb was =>
    (only.2 b (old was)).trans ((Heap.get?_update_ne _ _ _ _ nb).trans (Heap.get?_push_of_some _ was))
  have here := (only.2 a (old ho)).trans (Heap.get?_update_self _ (Heap.get?_push_of_some _ ho) rfl)
  have new : H s.heap.objs.size = none := I.hok.fresh (Nat.le_refl _)
  have apart : s.heap.objs.size ≠ a := (old ho).symm
  have away : ∀ {b : Addr}, H b = none → b ≠ a := fun hb z => by subst z; rw [e] at hb; cases hb
  have look : ∀ {b : Addr}, b ≠ a → b ≠ s.heap.objs.size → (upd (upd H s.heap.objs.size (exd s.heap.objs.size [(f, y)])) a (exo a C (some s.heap.objs.size))) b = H b := fun h1 h2 => by rw [upd_ne h1, upd_ne h2]
  have un : Un X.fs [] H (upd (upd H s.heap.objs.size (exd s.heap.objs.size [(f, y)])) a (exo a C (some s.heap.objs.size))) s.heap g := by
    constructor
    · exact fun b o was nb _ _ => rest b o (away nb) was
    · exact fun b o was nb _ _ => ⟨o.slots, rest b o (away nb) was⟩
    · exact fun b o was nb _ => (look (away nb) (old was)).trans nb
    · intro b o was _
      by_cases hb : b = a
      · subst hb; exact ⟨_, here⟩
      · exact ⟨o, rest b o hb was⟩
    · exact fun b xs hb => (look (at_ne e hb exo_tup) (ne_of_none hb new)).trans hb
    · exact fun b o v hb => (look (at_ne e hb exo_frz) (ne_of_none hb new)).trans hb
    · exact fun b ps hb => ⟨#[], by rw [look (at_ne e hb exo_tbl) (ne_of_none hb new), hb]; simp⟩
  refine q s.heap.objs.size _ new apart (I.un (t' := tk) un fun b o hb => ?_)
  by_cases za : b = a
  · subst za
    rw [upd_same] at hb
    cases hb
    exact exo_ok here
  by_cases zn : b = s.heap.objs.size
  · subst zn
    rw [upd_ne za, upd_same] at hb
    cases hb
    exact exd_ok dict (relO_put (fs := []) ry fun _ => True.intro)
  rw [look za zn] at hb
  refine (I.hok b o hb).stay (fun c v hc was => rest c v (hc.elim (fun z => z ▸ za) fun z => at_ne e z exo_own) was) (fun c hc => ?_) (fun c xs hc => ?_)
  · exact (look (at_ne e hc exo_own) (ne_of_none hc new)).trans hc
  · exact (look (at_ne e hc exo_tup) (ne_of_none hc new)).trans hc
/-- self.f = y, a further field -/
theorem own_more {fs : List (Str × V)} (T : OwnE X.K C B newId initId bmB) (I : Inv X pins σ H s) (e : H a = some (exo a C (some dx))) (ed : H dx = some (exd dx fs)) (hl : fs.length ≤ 900) (ht : PySem.W.takerIn X.K C f = some none) (ry : RelV y u)
    (q : ∀ s', Inv X pins σ (upd H dx (exd dx ((f, y) :: fs))) s' → Q () s') : wpAny (model X.prog X.w) A (setAttr (.ref a) f u) Q E s := by
  obtain ⟨t1, ho⟩ := exo_at I.hok e
  obtain ⟨mA, ns, rel⟩ := exd_at I.hok ed
  obtain ⟨cd, hc, hdict⟩ := PySem.W.any_some T.hd
  obtain ⟨oD, _, _, hoD, _, _⟩ := ns.count (within_of rel)
  refine PySem.W.set_plain (od := some oD) I.kIn ⟨ho, rfl, rfl, hoD⟩ T.sa ?_
  refine PySem.W.osa_openX (od := some oD) T.st I.kIn ⟨ho, rfl, rfl, hoD⟩ T.ov ht fun b => ?_
  refine wpAny_bind (wpAny_pure (wpAny_bind (wpAny_bind (wpAny_loadPart ho (wpAny_bind ((PySem.W.looks_clsIn I.kIn hc).at ?_))))))
  rw [hdict]
  refine wpAny_pure (a := some dx) ?_
  refine PySem.OEX.store_in_old ns (within_of rel) (by rw [List.length_map]; omega) fun g tk dict only => ?_
  have there : ∃ o, g.get? dx = some o := by
    obtain ⟨o, _, _, ho', _⟩ := dict
    exact ⟨o, ho'⟩
  exact q _ (I.write (t' := tk) (x := dx) (e := dx) (o := exd dx ((f, y) :: fs)) (by rw [ed]; exact True.intro) (.inl rfl) (fun b o nb was => (only.2 b nb).trans was) there (exd_ok dict (relO_put ry rel)))
end
/-- self.f = e in such a class -/
def tStO (K : PySem.W.Frag) (f : Str) (to te : TE) : TS := fun D σ H => te σ H fun y H1 => to σ H1 fun x H2 => ∃ (a C : Addr) (B newId initId : String) (bmB : List Value), x = .ref a ∧ OwnE K C B newId initId bmB ∧ PySem.W.takerIn K C f = some none ∧
  ((H2 a = some (exo a C none) ∧ ∀ dx, H2 dx = none → dx ≠ a → D.nx σ (upd (upd H2 dx (exd dx [(f, y)])) a (exo a C (some dx)))) ∨
    ∃ (dx : Addr) (fs : List (Str × V)), H2 a = some (exo a C (some dx)) ∧ H2 dx = some (exd dx fs) ∧ fs.length ≤ 900 ∧ D.nx σ (upd H2 dx (exd dx ((f, y) :: fs))))
theorem ps_stO {X : Cx} {o e : Expr} {to te : TE} {f : Str} {p pos : Pos} (ho : PE X o to) (he : PE X e te) (hs : swapsWith e (some (.Attribute o f p)) pos.line X.env = pure false := by rfl) : PS X (.Assign [.Attribute o f p] e pos) (tStO X.K f to te) :=
  ⟨fun pins s σ H D I h => plainObj_wpAny_Assign_Attribute (thn (he.run pins s σ H _ I h) fun v s1 ⟨y, H1, I1, r1, q1⟩ => thn (ho.run pins s1 σ H1 _ I1 q1) fun u s2 ⟨x, H2, I2, r2, a, C, _, _, _, _, ex, T, ht, q⟩ => by
    subst ex
    obtain rfl : u = Value.ref a := r2
    rcases q with ⟨ea, q⟩ | ⟨dx, fs, ea, ed, hl, q⟩
    · exact own_first T I2 ea ht r1 fun dx s' n1 n2 J => ⟨σ, _, J, q dx n1 n2⟩
    · exact own_more T I2 ea ed hl ht r1 fun s' J => ⟨σ, _, J, q⟩) hs⟩
/-- C(e, ..) of such a class, kept as a value -/
def tMkV (C : Addr) (sp : Sp) (ta : TA) : TE := fun σ H Q => ta σ H fun vs H1 => vs.length ≤ 1000 ∧ ∀ a, H1 a = none → sp (.ref a :: vs) (upd H1 a (exo a C none)) (fun v H2 => v = .non ∧ Q (.ref a) H2) E0
theorem pe_mkV {X : Cx} {x : Str} {C fI : Addr} {k : Nat} {fd : FuncData} {ps : List Str} {sp : Sp} {B newId initId : String} {bmB : List Value} {e : Expr} {es : List Expr} {ta : TA} {p pos : Pos} (T : OwnE X.K C B newId initId bmB)
    (iC : PySem.W.findIn X.K (.ref C) "__init__" = some (some (.ref fI))) (tI : PySem.W.typeIn X.K (.ref fI) = some (.type "function")) (F1 : FnOk X.prog X.w X.K X.mg X.base CX0 k fI fd ps sp) (hr : Room (k + 1) X.A) (hb : Binds X.K fd ps [])
    (hg : Gl X x) (hm : X.mg x = some (.ref C)) (ha : PA X (e :: es) ta) (hdb : (x == ("__debug__" : Str)) = false := by decide) (he : starEach (e :: es) X.env = (false, eval e X.env) :: starEach es X.env := by rfl) (hpl : (backTo pos (starEach es X.env)).any (·.1) = false := by rfl) :
    PE X (.Call (.Name x p) (e :: es) [] pos) (tMkV C sp ta) := ⟨fun pins s σ H Q I h => by
  refine wpAny_Call_Name_kw (ld_glob I hg hm ?_ hdb)
  refine PySem.W.callWith_K (h₀ := X.base) I.ok.mod.kin T.kC (thn (ha.run pos pins s σ H _ I h) fun us s1 ⟨vs, H1, I1, rel, few, go⟩ => ⟨I1.kIn, ?_⟩) he hpl
  show wpAny _ _ (call (.ref C) us) _ _ _
  obtain ⟨nm, N, qn, bs, bm, hdct, sn, sub, ab, col, dd, k0, k1, k2, k3, k5, hC, hT⟩ := PySem.W.excInit_of I1.kIn T.made
  obtain ⟨hp, g, d, tk, os⟩ := s1
  have late : hp.objs.size ≤ hp.objs.size + 1 := Nat.le_succ _
  have start := go (hp.objs.size + 1) (I1.hok.fresh late)
  have got : ((hp.push (PySem.W.kdv_tup us)).push (PySem.HandSPX.excO C hp.objs.size)).get? (hp.objs.size + 1) = some (PySem.HandSPX.excO C hp.objs.size) := by heap_get
  have I2 : Inv X pins σ (upd H1 (hp.objs.size + 1) (exo (hp.objs.size + 1) C none)) ⟨(hp.push (PySem.W.kdv_tup us)).push (PySem.HandSPX.excO C hp.objs.size), g, d, tk, os⟩ :=
    I1.laid (t' := tk) (h' := (hp.push (PySem.W.kdv_tup us)).push (PySem.HandSPX.excO C hp.objs.size)) (fun b o was => Heap.get?_push_of_some _ (Heap.get?_push_of_some _ was)) late (exo_ok got)
  have rel2 : Vals (V.ref (hp.objs.size + 1) :: vs) (Value.ref (hp.objs.size + 1) :: us) := .cons rfl rel
  have count : (Value.ref (hp.objs.size + 1) :: us).length = ps.length := rel2.length.symm.trans (F1.len _ _ _ _ start)
  have few2 : us.length ≤ sizeLine := by rw [← rel.length]; exact Nat.le_trans few (by decide)
  have binds := hb _ (Value.ref (hp.objs.size + 1) :: us) I2.kIn (by rw [List.append_nil]; exact count)
  rw [List.append_nil] at binds
  refine wpAny_call (PySem.HandSPX.call_own T.base hT hC (PySem.W.looks_findIn I1.kIn iC) (fun self => PySem.W.bind_fn I1.kIn self tI) few2
    (codeAny_mono (F1.run _ X.stack _ _ ⟨_, []⟩ (Value.ref (hp.objs.size + 1) :: us) _ _ E0 (hr.make C us []) (I2.env0.make C us []) binds rel2 start) fun r s' back => ?_))
  cases r with
  | error er => exact pass0 pins σ _ _ er s' I2 back
  | ok fl =>
    cases fl with
    | ret u =>
      obtain ⟨v, H2, I3, rv, ev, q⟩ := I2.after back
      subst ev
      exact ⟨rv, V.ref (hp.objs.size + 1), H2, I3, rfl, q⟩
    | next => exact False.elim back
    | brk => exact False.elim back
    | cont => exact False.elim back⟩
/-! ### such a value's field, and what kind it is of -/
/-- e.f -/
def tFldO (K : PySem.W.Frag) (f : Str) (te : TE) : TE := fun σ H Q => te σ H fun x H1 => ∃ (a C dx : Addr) (fs : List (Str × V)) (v : V), x = .ref a ∧ ExcC K C ∧ PySem.W.findIn K (.ref C) f = some none ∧ H1 a = some (exo a C (some dx)) ∧ H1 dx = some (exd dx fs) ∧ fs.lookup f = some v ∧ Q v H1
theorem pe_fldO {X : Cx} {e : Expr} {te : TE} {f : Str} {pos : Pos} (he : PE X e te) (hb : attributeBase e f X.env (eval e X.env) = eval e X.env := by rfl) : PE X (.Attribute e f pos) (tFldO X.K f te) := ⟨fun pins s σ H Q I h => by
  refine attr_of hb (thn (he.run pins s σ H _ I h) fun u s1 ⟨x, H1, I1, rx, a, C, dx, fs, v, ex, T, no, ea, ed, hl, q⟩ => ?_)
  subst ex
  obtain rfl : u = Value.ref a := rx
  obtain ⟨t1, ho⟩ := exo_at I1.hok ea
  obtain ⟨mA, ns, rel⟩ := exd_at I1.hok ed
  obtain ⟨oD, hoD, look⟩ := lookIn_ns ns
  obtain ⟨u, hu, ru⟩ := RelO.some_of (v := v) (o := mA f) (by rw [← hl]; exact rel f)
  have J : PySem.W.InstAt s1.heap a _ C (some oD) := ⟨ho, rfl, rfl, hoD⟩
  exact HandSPX.exc_get I1.kIn J T.hg T.hk T.hs (PySem.W.findObj_own T.hd no rfl (by rw [look, hu])) (handed_of ru) ⟨v, H1, I1.tok _, ru, q⟩⟩
/-- isinstance(e, c) of such a value -/
def rIsO (K : PySem.W.Frag) : List V → Hp → VK → Prop := fun xs H Q => ∃ (a C dx : Addr) (fs : List (Str × V)) (c : V) (cv : Value) (b : Bool), xs = [.ref a, c] ∧ ExcC K C ∧ H a = some (exo a C (some dx)) ∧ H dx = some (exd dx fs) ∧ (∀ u, RelV c u → u = cv) ∧ PySem.W.kitOne K (.ref C) cv = some b ∧ Q (.bl b) H
theorem call_isO {X : Cx} : CallR X (.builtin "isinstance") (rIsO X.K) := by
  intro pins s σ H xs us Q I r h
  obtain ⟨a, C, dx, fs, c, cv, b, rfl, T, ea, ed, hcv, hk, q⟩ := h
  obtain ⟨u1, u2, rfl, r1, r2⟩ := vals2 r
  obtain rfl : u1 = Value.ref a := r1
  have e2 := hcv _ r2
  subst e2
  obtain ⟨t1, ho⟩ := exo_at I.hok ea
  obtain ⟨mA, ns, rel⟩ := exd_at I.hok ed
  obtain ⟨oD, hoD, look⟩ := lookIn_ns ns
  obtain ⟨cd, hc, _⟩ := PySem.W.any_some T.hd
  have J : PySem.W.InstAt s.heap a _ C (some oD) := ⟨ho, rfl, rfl, hoD⟩
  exact PySem.W.kia_one (PySem.W.kitx_exc (by rw [hc]; rfl) T.hg T.hk T.hs T.ha T.hn T.ht T.hm) I.kIn J hk (fun z => nomatch z) fun tk => ⟨.bl b, H, I.kept (t' := tk) fun _ _ z => z, rfl, q⟩
/-! ### own errors without an __init__ of their own, without arguments -/
theorem pe_mk0 {X : Cx} {x : Str} {C : Addr} {B newId initId : String} {bmB : List Value} {p pos : Pos} (F : ExcBaseFacts B newId initId bmB) (made : PySem.W.excInitIn X.K C bmB newId = true) (kC : PySem.W.keepIn X.K (.ref C) = true)
    (iC : PySem.W.findIn X.K (.ref C) "__init__" = some (some (.builtin initId))) (hg : Gl X x) (hm : X.mg x = some (.ref C)) (hdb : (x == ("__debug__" : Str)) = false := by decide) :
    PE X (.Call (.Name x p) [] [] pos) (fun _ H Q => ∀ a, H a = none → Q (.ref a) (upd H a (exo a C none))) := ⟨fun pins s σ H Q I h => by
  refine wpAny_Call_Name_kw (ld_glob I hg hm ?_ hdb)
  refine PySem.W.callWith_K0 I.kIn kC ?_
  show wpAny _ _ (call (.ref C) []) _ _ _
  obtain ⟨nm, N, qn, bs, bm, hdct, sn, sub, ab, col, dd, k0, k1, k2, k3, k5, hC, hT⟩ := PySem.W.excInit_of I.kIn made
  obtain ⟨hp, g, d, tk, os⟩ := s
  refine PySem.W.call_B F hT hC (PySem.W.looks_findIn I.kIn iC) (Nat.zero_le _) fun h2 kept got _ => ?_
  have late : hp.objs.size ≤ hp.objs.size + 1 := Nat.le_succ _
  exact ⟨.ref (hp.objs.size + 1), _, I.laid (t' := tk) (h' := h2) kept late (exo_ok got), rfl, h _ (I.hok.fresh late)⟩⟩
/-- isinstance(e, c), e without a field -/
def rIsO0 (K : PySem.W.Frag) : List V → Hp → VK → Prop := fun xs H Q => ∃ (a C : Addr) (c : V) (cv : Value) (b : Bool), xs = [.ref a, c] ∧ ExcC K C ∧ H a = some (exo a C none) ∧ (∀ u, RelV c u → u = cv) ∧ PySem.W.kitOne K (.ref C) cv = some b ∧ Q (.bl b) H
theorem call_isO0 {X : Cx} : CallR X (.builtin "isinstance") (rIsO0 X.K) := by
  intro pins s σ H xs us Q I r h
  obtain ⟨a, C, c, cv, b, rfl, T, ea, hcv, hk, q⟩ := h
  obtain ⟨u1, u2, rfl, r1, r2⟩ := vals2 r
  obtain rfl : u1 = Value.ref a := r1
  have e2 := hcv _ r2
  subst e2
  obtain ⟨t1, ho⟩ := exo_at I.hok ea
  obtain ⟨cd, hc, _⟩ := PySem.W.any_some T.hd
  have J : PySem.W.InstAt s.heap a _ C none := ⟨ho, rfl, rfl, trivial⟩
  exact PySem.W.kia_one (PySem.W.kitx_exc (by rw [hc]; rfl) T.hg T.hk T.hs T.ha T.hn T.ht T.hm) I.kIn J hk (fun z => nomatch z) fun tk => ⟨.bl b, H, I.kept (t' := tk) fun _ _ z => z, rfl, q⟩
/-- either kind -/
def rIsOw (K : PySem.W.Frag) : List V → Hp → VK → Prop := fun xs H Q => rIsO K xs H Q ∨ rIsO0 K xs H Q
theorem call_isOw {X : Cx} : CallR X (.builtin "isinstance") (rIsOw X.K) := fun pins s σ H xs us Q I r h => h.elim (call_isO pins s σ H xs us Q I r) (call_isO0 pins s σ H xs us Q I r)
/-- isinstance(e, (S, T)) -/
def rIsOT (K : PySem.W.Frag) : List V → Hp → VK → Prop := fun xs H Q => ∃ (a C tp : Addr) (od : Option Addr) (S T : String) (b : Bool), xs = [.ref a, .ref tp] ∧ ExcC K C ∧ H a = some (exo a C od) ∧ (∀ dx, od = some dx → ∃ fs, H dx = some (exd dx fs)) ∧
  H tp = some (.tup [.ty S, .ty T]) ∧ PySem.W.kitAny K (.ref C) [.type S, .type T] = some b ∧ Q (.bl b) H
theorem call_isOT {X : Cx} : CallR X (.builtin "isinstance") (rIsOT X.K) := by
  intro pins s σ H xs us Q I r h
  obtain ⟨a, C, tp, od, S, T, b, rfl, F, ea, ed, et, hk, q⟩ := h
  obtain ⟨u1, u2, rfl, r1, r2⟩ := vals2 r
  obtain rfl : u1 = Value.ref a := r1
  obtain rfl : u2 = Value.ref tp := r2
  obtain ⟨t1, ho⟩ := exo_at I.hok ea
  obtain ⟨cd, hc, _⟩ := PySem.W.any_some F.hd
  obtain ⟨_, raw, rel, o, hp, hcls, n, hdat⟩ := I.hok _ _ et
  obtain ⟨v1, v2, rfl, e1, e2⟩ := vals2 rel
  obtain rfl : v1 = Value.type S := e1
  obtain rfl : v2 = Value.type T := e2
  obtain ⟨cls, dd, data, sl⟩ := o
  simp only at hcls hdat
  subst hcls hdat
  have fin : ∀ tk, EP X pins σ Q (.bool b) { s with toks := tk } := fun tk => ⟨.bl b, H, I.kept (t' := tk) fun _ _ z => z, rfl, q⟩
  cases od with
  | none =>
    have J : PySem.W.InstAt s.heap a _ C none := ⟨ho, rfl, rfl, trivial⟩
    exact PySem.W.kia_tup (its := [.type S, .type T]) (PySem.W.kitx_exc (by rw [hc]; rfl) F.hg F.hk F.hs F.ha F.hn F.ht F.hm) I.kIn J hp hk (fun z => nomatch z) fin
  | some dx =>
    obtain ⟨fs, ed⟩ := ed dx rfl
    obtain ⟨mA, ns, _⟩ := exd_at I.hok ed
    obtain ⟨oD, hoD, _⟩ := lookIn_ns ns
    have J : PySem.W.InstAt s.heap a _ C (some oD) := ⟨ho, rfl, rfl, hoD⟩
    exact PySem.W.kia_tup (its := [.type S, .type T]) (PySem.W.kitx_exc (by rw [hc]; rfl) F.hg F.hk F.hs F.ha F.hn F.ht F.hm) I.kIn J hp hk (fun z => nomatch z) fin
end DL

namespace DL
open PySem PySem.Spec PyProof.Rows L2
open Evl (Ex)
/-! ### a caught error that is kept behind the suite -/
/-- at a: an error that was caught, its class, its dict -/
def hld (a : Addr) (cls : Value) (d : Option Addr) : HO := .ext fun h => ∃ (oe : Obj) (vs : Array Value), h.get? a = some oe ∧ Zc cls d oe ∧ oe.data = .fields vs
theorem hld_own {a x : Addr} {cls : Value} {d : Option Addr} : hld a cls d ≠ .own x := fun z => by
  have z' : HO.ext _ = HO.own x := z
  cases z'
section
variable {X : Cx} {pins : List (Addr × Obj)} {σ : L2.St} {H : Hp} {s : Shared}
theorem hld_ok {P : Program} {w : World} {h : Heap} {a : Addr} {oe : Obj} {vs : Array Value} {cls : Value} {d : Option Addr} (e1 : h.get? a = some oe) (e2 : Zc cls d oe) (e3 : oe.data = .fields vs) : ObjOk P w H h a (hld a cls d) :=
  ⟨⟨oe, vs, e1, e2, e3⟩, ⟨_, e1⟩, fun h1 h2 z k => by
    obtain ⟨o, v, q1, q2, q3⟩ := z
    exact ⟨o, v, k _ q1, q2, q3⟩⟩
/-- an object that is new since the def began, and that nobody knows, is tracked from now on -/
theorem adopt (I : Inv X pins σ H s) {a : Addr} {oe : Obj} {vs : Array Value} {cls : Value} {d : Option Addr} (e1 : s.heap.get? a = some oe) (e2 : Zc cls d oe) (e3 : oe.data = .fields vs) (na : H a = none) (nl : a ≠ X.env.locals)
    (new : a ∉ X.ex → X.s_0.heap.get? a = none) (np : ∀ p ∈ X.pn ++ pins, p.1 ≠ a) : Inv X pins σ (upd H a (hld a cls d)) s := by
  have keep : ∀ {b : Addr} {o : HO}, H b = some o → (upd H a (hld a cls d)) b = some o := fun {b o} hb => by
    rw [upd_ne (ne_of_none hb na)]
    exact hb
  refine ⟨I.ok, I.os, I.bare, ⟨I.base.keep, I.base.slot, fun b o was n1 n2 => ?_, I.base.there, fun b xs hb => keep (I.base.tups b xs hb), fun b o v hb => keep (I.base.frzs b o v hb), fun b ps hb => ?_⟩, I.loc, I.cell, ?_, fun x c hc => ?_, fun p hp => ?_, fun b o hb => ?_, I.len⟩
  · have nb : b ≠ a := fun z => by
      subst z
      rw [new n2] at was
      cases was
    rw [upd_ne nb]
    exact I.base.free b o was n1 n2
  · obtain ⟨more, hm⟩ := I.base.tbls b ps hb
    exact ⟨more, keep hm⟩
  · rw [upd_ne nl.symm]
    exact I.free
  · have nc : c ≠ a := fun z => by
      subst z
      obtain ⟨v, o, f1, f2⟩ := I.cell x c hc
      rw [e1] at f1
      cases f1
      rw [e3] at f2
      exact nomatch f2
    rw [upd_ne nc]
    exact I.freeC x c hc
  · obtain ⟨g1, g2, g3⟩ := I.pin p hp
    refine ⟨g1, ?_, g3⟩
    rw [upd_ne (np p hp)]
    exact g2
  · by_cases z : b = a
    · subst z
      rw [upd_same] at hb
      cases hb
      exact hld_ok e1 e2 e3
    · rw [upd_ne z] at hb
      exact (I.hok b o hb).stay (fun c v _ q => q) (fun c hc => keep hc) fun c xs hc => keep hc
end
/-- what the clause 'except x as n: m = n' wishes: slot i is n's, slot j is m's -/
def wKeep (K : PySem.W.Frag) (c : Value) (i j : Nat) (Wout : WX) (D : Ends) : WX := fun cls d σ H =>
  ∃ b, PySem.W.exmOne K cls c = some b ∧ (b = true → ∀ a, H a = none → D.nx ((σ.set j (some (.ref a))).set i none) (upd H a (hld a cls d))) ∧ (b = false → Wout cls d σ H)
section
variable {X : Cx} {x n m : Str} {c : Value} {i j : Nat} {body : List Stmt} {np pos pos' p1 p2 p3 : Pos} {tb : WX → TS} {Wout : WX}
theorem ps_try_keep (hs : X.stack = X.env :: X.outer) (hf : X.env.frame = some X.env.locals) (hN : X.N.Nodup) (hi : X.N[i]? = some n) (hj : X.N[j]? = some m) (hln : X.env.kindOf n = some .local) (hlm : L2.Loc X.env.scope m) (hmf : X.env.scope.names.lookup m = some .local) (hc : Names X x c) (tk : Takes X Wout)
    (hv : ∀ (a : Addr) (oe : Obj) (pn : List (Addr × Obj)), PE (X.suite a ((a, oe) :: pn)) (.Name n p2) (tVar i)) (hsw : ∀ (a : Addr) (oe : Obj) (pn : List (Addr × Obj)), swapsWith (.Name n p2) (some (.Name m p1)) p3.line (X.suite a ((a, oe) :: pn)).env = pure false)
    (hb : ∀ (W : WX) (pn : List (Addr × Obj)) (xe : Value → Shared → Prop), Takes (X.tr pn xe) W → PassesOwn (model X.prog X.w) X.A X.env xe → PSs (X.tr pn xe) body (tb W)) :
    PS X (.Try body [.ExceptHandler (some (.Name x np)) (some n) [.Assign [.Name m p1] (.Name n p2) p3] pos'] [] [] pos) (fun D σ H => tb (wKeep X.K c i j Wout D) D σ H) := by
  refine ⟨fun pins s σ H D I h => ?_⟩
  have okX := I.ok
  have frX : X.A.frames = some (X.env :: X.outer) := by rw [okX.frames, hs]
  have locn : Loc X.env.scope n := .inl hln
  refine wpAny_Try_except ?_
  refine wpAny_mono ((hb (wKeep X.K c i j Wout D) (X.pn ++ pins) (fun e s₁ => wpAny (model X.prog X.w) X.A (noteFrame e X.env) (fun _ s₂ => wpAny (model X.prog X.w) X.A (setFlight e none) (fun _ s₃ => wpAny (model X.prog X.w) X.A (handleBy e X.env [.ExceptHandler (some (.Name x np)) (some n) [.Assign [.Name m p1] (.Name n p2) p3] pos']) (SP X pins D) X.xe s₃) X.xe s₂) X.xe s₁) (fun u s' xx => ?_) PassesOwn.looking).run [] s σ H D (I.toTry _) h) (fun f s1 hq => ?_) (fun e s1 he => he)
  · obtain ⟨a, B, sI, pn1, σ1, H1, cls, d, rfl, Jt, nb, up, sky, na, os, ag, b, hb1, hyes, hno⟩ := xx
    have J : Inv X pins σ1 H1 sI := Jt.ofTry okX
    have skyX : Sky B (X.env :: X.outer) a (Zc cls d) X.env.locals s'.heap := by rw [← hs]; exact sky
    show wpAny (model X.prog X.w) X.A (noteFrame (.ref a) X.env) _ _ _
    have newB : B.get? a = none := skyX.elim (fun z => z.2.1) fun z => z.elim (fun z => z.2.1) fun z => z.2.1
    refine Sky.land Zc.steady frX hf skyX fun h3 fl3 up3 => ?_
    have J3 : Inv X pins σ1 H1 { s' with heap := h3 } := J.landed nb fl3.1 (up.trans up3) os ag
    obtain ⟨oe3, vs3, he3, hz3, hd3⟩ := fl3.there
    have outF : ∀ {h : Heap} {o : Obj} {vs : Array Value}, h.FunFrames B (X.env :: X.outer) → h.get? a = some o → o.data = .fields vs → a ∉ frs (X.env :: X.outer) := fun {h o vs} ff e dd hm => by
      obtain ⟨_, o', e', hnf⟩ := ff.mem hm
      rw [e] at e'
      cases e'
      exact hnf _ dd
    have nfr := outF fl3.2.2.1 he3 hd3
    have nL : a ≠ X.env.locals := fun z => nfr (List.mem_filterMap.mpr ⟨X.env, List.mem_cons_self, by rw [hf, z]⟩)
    have nF : a ∉ X.fs := fun hm => by
      obtain ⟨e, he, q⟩ := List.mem_filterMap.mp hm
      exact nfr (List.mem_filterMap.mpr ⟨e, List.mem_cons_of_mem _ he, q⟩)
    have newI : sI.heap.get? a = none := by
      cases z : sI.heap.get? a with
      | none => rfl
      | some o =>
        have := nb a o z (by rw [hs]; exact nfr)
        rw [newB] at this
        cases this
    have new0 : a ∉ X.ex → X.s_0.heap.get? a = none := fun hx => by
      cases z : X.s_0.heap.get? a with
      | none => rfl
      | some o =>
        obtain ⟨o', h'⟩ := J.base.there a o z hx
        rw [newI] at h'
        cases h'
    have S3 := J3.suite he3 hd3 na nL nF
    refine wpAny_handleBy_cons (codeAny_handlers_test ?_) (by intro q; cases q)
    have LT : PySem.W.Looks (model X.prog X.w) h3 (typeOf (.ref a)) cls := fun A Q E s k q => wpAny_typeOf_ref (k _ _ he3) (by rw [hz3.1]; exact q)
    have LM := PySem.W.exm_one (M := model X.prog X.w) (J3.kIn) LT hb1
    have look : ∀ {Q : Value → Shared → Prop} {E : Value → Shared → Prop}, Q c { s' with heap := h3 } → wpAny (model X.prog X.w) (X.A.mark (some (.ref a))) (eval (.Name x np) X.env) Q E { s' with heap := h3 } := fun {Q E} q => by
      obtain ⟨hg, hdbg, hm | ⟨hm, hv, hnn⟩⟩ := hc
      · exact ld_glob (X := X.suite a ((a, oe3) :: (X.pn ++ pins))) S3 hg hm q hdbg
      · exact ld_blt (X := X.suite a ((a, oe3) :: (X.pn ++ pins))) S3 hg hm hv q hnn hdbg
    refine look (LM.here ?_)
    cases b with
    | true =>
      refine codeAny_handlers_suite_as ?_
      refine HandSPX.lands_againZ fl3 fun h4 fl4 up4 => ?_
      have J4 : Inv X pins σ1 H1 { s' with heap := h4 } := J.landed nb fl4.1 ((up.trans up3).trans up4) os ag
      obtain ⟨oe4, vs4, he4, hz4, hd4⟩ := fl4.there
      have S4 := J4.suite he4 hd4 na nL nF
      refine store_ok (X := X.suite a ((a, oe4) :: (X.pn ++ pins))) (v := .ref a) S4 hN hi locn rfl (fun s5 S5 => ?_) (.inr hln)
      have ps : PS (X.suite a ((a, oe4) :: (X.pn ++ pins))) (.Assign [.Name m p1] (.Name n p2) p3) (tAsg (tVar i) (gName j)) := ps_set hN hj hlm (hv a oe4 _) (hsw a oe4 _) (.inr hmf)
      have hin : i < σ1.length := by
        rw [J.len]
        exact (List.getElem?_eq_some_iff.mp hi).1
      refine wpAny_mono ((pss_one ps).run [] s5 _ H1 ⟨fun σ' H' => σ' = (σ1.set i (some (.ref a))).set j (some (.ref a)) ∧ H' = H1, fun _ _ => False, fun _ _ => False, fun _ _ => False⟩ S5 ⟨_, by rw [List.getElem?_set_self hin], rfl, rfl⟩) (fun f s6 hq => ?_) (fun _ _ z => False.elim z)
      cases f with
      | brk =>
        obtain ⟨_, _, _, q⟩ := hq
        exact q.elim
      | cont =>
        obtain ⟨_, _, _, q⟩ := hq
        exact q.elim
      | ret u =>
        obtain ⟨_, _, _, _, _, q⟩ := hq
        exact q.elim
      | next =>
        obtain ⟨σ6, H6, S6, eσ, eH⟩ := hq
        subst eσ eH
        obtain ⟨g1, _, _, _, _⟩ := S6.pin (a, oe4) List.mem_cons_self
        have A6 := adopt (S6.unsuite okX) (cls := cls) (d := d) g1 hz4 hd4 na nL new0 fun p hp z => by
          have := (J.pin p hp).1
          rw [z, newI] at this
          cases this
        have A7 := hyes rfl a na
        show wpAny _ _ (do bindName X.env n .none; unbindBehindTheSuite X.env n pos') _ _ _
        refine gone_ok A6 hN hi hln fun s7 J7 => ?_
        refine ⟨_, _, J7, ?_⟩
        have e : ((σ1.set i (some (.ref a))).set j (some (.ref a))).set i none = (σ1.set j (some (.ref a))).set i none := by
          by_cases z : i = j
          · subst z
            simp
          · rw [List.set_comm _ _ z, List.set_set]
        rw [e]
        exact A7
    | false =>
      show wpAny _ X.A (handleBy (.ref a) X.env []) _ _ _
      refine wpAny_handleBy_nil ?_
      obtain ⟨_, _, _, oe, vs, T, oT, ts', he, hz, hd, h1, hr⟩ := id fl3
      unfold PySem.passOn
      refine wpAny_bind (wpAny_field he hd h1 ?_)
      rw [if_neg (show ¬ ((Value.ref T == Value.none) = true) from by simp)]
      have last : wpAny (model X.prog X.w) X.A (setFlight (.ref a) X.env.frame) (fun _ s4 => wpAny (model X.prog X.w) X.A (throw (.ref a) : Sem Flow) (SP X pins D) X.xe s4) X.xe { s' with heap := h3 } := by
        rw [hf]
        exact HandSPX.setFlight_upZ fl3 fun h4 hh4 up4 => wpAny_throw (tk _ _ ⟨a, B, sI, pins, σ1, H1, cls, d, rfl, J, nb, (up.trans up3).trans up4, .inr (.inr (by rw [hs]; exact hh4)), na, os, ag, hno rfl⟩)
      first
        | exact wpAny_bind (wpAny_pure (wpAny_bind last))
        | exact wpAny_bind last
  · cases f with
    | next =>
      obtain ⟨σ1, H1, J1, q⟩ := hq
      exact wpAny_execs_nil ⟨σ1, H1, J1.ofTry okX, q⟩
    | brk =>
      obtain ⟨σ1, H1, J1, q⟩ := hq
      exact ⟨σ1, H1, J1.ofTry okX, q⟩
    | cont =>
      obtain ⟨σ1, H1, J1, q⟩ := hq
      exact ⟨σ1, H1, J1.ofTry okX, q⟩
    | ret u =>
      obtain ⟨v1, σ1, H1, J1, r, q⟩ := hq
      exact ⟨v1, σ1, H1, J1.ofTry okX, r, q⟩
end
end DL

namespace DL
open PySem PySem.Spec PyProof.Rows L2
open Evl (Ex)
open RZ
/-- raise C(e): the class C over any built-in error, with an __init__ of its own -/
theorem pmk_own2 {X : Cx} {x : Str} {C fI : Addr} {k : Nat} {fd : FuncData} {ps : List Str} {sp : Sp} {B newId initId : String} {bmB : List Value} {e : Expr} {es : List Expr} {ta : TA} {p pos : Pos} (T : OwnE X.K C B newId initId bmB) (R : Raises X (.ref C))
    (iC : PySem.W.findIn X.K (.ref C) "__init__" = some (some (.ref fI))) (tI : PySem.W.typeIn X.K (.ref fI) = some (.type "function")) (F1 : FnOk X.prog X.w X.K X.mg X.base CX0 k fI fd ps sp) (hr : Room (k + 1) X.A) (hb : Binds X.K fd ps [])
    (hg : Gl X x) (hm : X.mg x = some (.ref C)) (ha : PA X (e :: es) ta) (hdb : (x == ("__debug__" : Str)) = false := by decide) (he : starEach (e :: es) X.env = (false, eval e X.env) :: starEach es X.env := by rfl) (hpl : (backTo pos (starEach es X.env)).any (·.1) = false := by rfl) :
    PMk X (.Call (.Name x p) (e :: es) [] pos) (tMkO C sp [] ta) := by
  intro pins s σ H Q I h
  refine wpAny_Call_Name_kw (ld_glob I hg hm ?_ hdb)
  refine PySem.W.callWith_K (h₀ := X.base) I.ok.mod.kin T.kC (thn (ha.run pos pins s σ H _ I h) fun us s1 ⟨vs, H1, I1, rel, few, go⟩ => ⟨I1.kIn, ?_⟩) he hpl
  show wpAny _ _ (call (.ref C) us) _ _ _
  obtain ⟨nm, N, qn, bs, bm, hdct, sn, sub, ab, col, dd, k0, k1, k2, k3, k5, hC, hT⟩ := PySem.W.excInit_of I1.kIn T.made
  obtain ⟨hp, g, d, tk, os⟩ := s1
  have late : hp.objs.size ≤ hp.objs.size + 1 := Nat.le_succ _
  have start := go (hp.objs.size + 1) (I1.hok.fresh late)
  rw [List.append_nil] at start
  have was : ∀ b o, hp.get? b = some o → ((hp.push (PySem.W.kdv_tup us)).push (PySem.HandSPX.excO C hp.objs.size)).get? b = some o := fun b o z => Heap.get?_push_of_some _ (Heap.get?_push_of_some _ z)
  have got : ((hp.push (PySem.W.kdv_tup us)).push (PySem.HandSPX.excO C hp.objs.size)).get? (hp.objs.size + 1) = some (PySem.HandSPX.excO C hp.objs.size) := by heap_get
  have I2 : Inv X pins σ (upd H1 (hp.objs.size + 1) (exo (hp.objs.size + 1) C none)) ⟨(hp.push (PySem.W.kdv_tup us)).push (PySem.HandSPX.excO C hp.objs.size), g, d, tk, os⟩ :=
    I1.laid (t' := tk) (h' := (hp.push (PySem.W.kdv_tup us)).push (PySem.HandSPX.excO C hp.objs.size)) was late (exo_ok got)
  have rel2 : Vals (V.ref (hp.objs.size + 1) :: vs) (Value.ref (hp.objs.size + 1) :: us) := .cons rfl rel
  have count : (Value.ref (hp.objs.size + 1) :: us).length = ps.length := rel2.length.symm.trans (F1.len _ _ _ _ start)
  have few2 : us.length ≤ sizeLine := by rw [← rel.length]; exact Nat.le_trans few (by decide)
  have binds := hb _ (Value.ref (hp.objs.size + 1) :: us) I2.kIn (by rw [List.append_nil]; exact count)
  rw [List.append_nil] at binds
  refine wpAny_call (PySem.HandSPX.call_own T.base hT hC (PySem.W.looks_findIn I1.kIn iC) (fun self => PySem.W.bind_fn I1.kIn self tI) few2
    (codeAny_mono (F1.run _ X.stack _ _ ⟨_, []⟩ (Value.ref (hp.objs.size + 1) :: us) _ _ (fun _ _ _ => False) (hr.make C us []) (I2.env0.make C us []) binds rel2 start) fun r s' back => ?_))
  cases r with
  | error er => exact pass0 pins σ _ _ er s' I2 back
  | ok fl =>
    cases fl with
    | next => exact False.elim back
    | brk => exact False.elim back
    | cont => exact False.elim back
    | ret u =>
      obtain ⟨v, H2, o2, b2, u2, ok2, rv, ev, dx, fs, ea, ed, hd1, q2⟩ := back
      subst ev
      obtain ⟨h2, g2, d2, t2, os2⟩ := s'
      exact ⟨rv, mk_end R I1 late was u2 ok2 o2 b2 ea ed hd1 q2⟩
/-- __init__(self, y): self.f = y -/
def spE1 (K : PySem.W.Frag) (f : Str) : Sp := fun vs H Q _ => ∃ (a C : Addr) (B newId initId : String) (bmB : List Value) (y : V), vs = [.ref a, y] ∧ OwnE K C B newId initId bmB ∧ PySem.W.takerIn K C f = some none ∧ H a = some (exo a C none) ∧
  ∀ dx, H dx = none → dx ≠ a → Q .non (upd (upd H dx (exd dx [(f, y)])) a (exo a C (some dx)))
/-- what raise C(y) leaves -/
theorem raise1 {K : PySem.W.Frag} {C : Addr} {B n1 n2 : String} {bm : List Value} {f : Str} {σ : L2.St} {H : Hp} {i : Nat} {y : V} {Q : XK} (T : OwnE K C B n1 n2 bm) (ht : PySem.W.takerIn K C f = some none) (hi : σ[i]? = some (some y))
    (h : ∀ dx, H dx = none → Q (.ref C) (some dx) (upd H dx (.xd [(f, y)]))) : tMkO C (spE1 K f) [] (tCons (tVar i) tNil) σ H Q :=
  ⟨y, hi, (by show 1 ≤ 1000; decide), fun a ha => ⟨a, C, B, n1, n2, bm, y, rfl, T, ht, upd_same, fun dx hdx ne => ⟨rfl, dx, [(f, y)], upd_same, by rw [upd_ne ne, upd_same], by rw [upd_ne ne] at hdx; exact hdx, by
    have hx : H dx = none := by rw [upd_ne ne] at hdx; exact hdx
    have e : upd (del (upd (upd (upd H a (exo a C none)) dx (exd dx [(f, y)])) a (exo a C (some dx))) a) dx (.xd [(f, y)]) = upd H dx (.xd [(f, y)]) := by
      funext b
      unfold upd del
      by_cases z : b = dx
      · simp [z]
      · by_cases w : b = a
        · subst w; simp [z, ha]
        · simp [z, w]
    rw [e]
    exact h dx hx⟩⟩⟩
/-! ### promises of defs that may raise NoName -/
inductive Rz where
  | ok (d : PyData) | er (s : Str)
def rzOk : Option Rz → Option PyData
  | some (.ok d) => some d
  | _ => none
def spR (K : PySem.W.Frag) (C : Addr) (n : Nat) (fn : List PyData → Option Rz) : Sp := fun vs H Q E => vs.length = n ∧ ∃ Hd ds z, Ex Hd H ∧ DtA K Hd vs ds ∧ ds.length = n ∧ fn ds = some z ∧
  (match z with
    | .ok r => ∀ v Hd' H', Ext Hd H Hd' H' → Dt K Hd' v r → Q v H'
    | .er s => ∀ dx H', Ext Hd H Hd H' → H dx = none → H' dx = some (.xd [("name", .str s)]) → E (.ref C) (some dx) H')
theorem spR_of {K : PySem.W.Frag} {C : Addr} {n : Nat} {fn : List PyData → Option Rz} {vs : List V} {H : Hp} {Q : VK} {E : XK} (h : spF K n (fun ds => rzOk (fn ds)) vs H Q E) : spR K C n fn vs H Q E := by
  obtain ⟨hl, Hd, ds, r, e, hd, ⟨hl2, hr⟩, q⟩ := h
  have hr : rzOk (fn ds) = some r := hr
  cases hf : fn ds with
  | none => rw [hf] at hr; cases hr
  | some z =>
    rw [hf] at hr
    cases z with
    | ok d => cases hr; exact ⟨hl, Hd, ds, _, e, hd, hl2, hf, q⟩
    | er s => cases hr
/-- a def that may raise, up to a depth of calls -/
structure DfX (P : Program) (w : World) (K : PySem.W.Frag) (mg : Str → Option Value) (base : Heap) (k : Nat) (x : Str) (ps : List Str) (sp : Sp) : Prop where
  ex : ∃ f fd, FnOk P w K mg base (L2.CX P w) k f fd ps sp ∧ mg x = some (.ref f) ∧ PySem.W.keepIn K (.ref f) = true ∧ Binds K fd ps []
section
variable {P : Program} {w : World} {K : PySem.W.Frag} {mg : Str → Option Value} {base : Heap}
theorem DfX.mono {j k : Nat} {x : Str} {ps : List Str} {sp : Sp} (D : DfX P w K mg base j x ps sp) (h : j ≤ k) : DfX P w K mg base k x ps sp := by
  obtain ⟨f, fd, F, m, k1, b⟩ := D.ex
  exact ⟨f, fd, F.mono h, m, k1, b⟩
theorem Tx.okX {x : Str} {ps N : List Str} {st : Stmt} {k : Nat} {sp : Sp} (T : Tx K mg x ps st) (S : FnScope N ps (defScope st)) (len : ∀ vs H Q E, sp vs H Q E → vs.length = ps.length)
    (hbody : ∀ (f : Addr) (cdv : Value) (A : Around) (outer : List Env) (s : Shared) (H : Hp) (vs : List V) (Q : VK) (E : XK), Room k (A.deeper (envOfC x (defScope st) s.heap.objs.size f cdv)) → sp vs H Q E →
      ∃ t, PSs (cxOf (L2.CX P w) P w K mg base N x (defScope st) f cdv A outer s H E) (defBody st) t ∧ t { nx := fun _ H' => Q .non H', rt := Q } (L2.start N vs) H) : DfX P w K mg base (k + 1) x ps sp := by
  obtain ⟨f, fd, F, m, b⟩ := T.ex
  exact ⟨f, fd, F.okX S len (hbody f), m, F.kp, b⟩
end
section
variable {X : Cx} {x : Str} {ps : List Str} {n : Nat} {fn : List PyData → Option Rz} {C : Addr} {p pos : Pos} {e : Expr} {es : List Expr} {t : TA} {j k : Nat} {W : WX}
/-- called where it does not raise -/
theorem pe_defO (D : DfX X.prog X.w X.K X.mg X.base j x ps (spR X.K C n fn)) (hr : Room k X.A) (hj : j ≤ k) (ha : PA X (e :: es) t) (hg : Gl X x := by rfl) (hdb : (x == ("__debug__" : Str)) = false := by decide)
    (he : starEach (e :: es) X.env = (false, eval e X.env) :: starEach es X.env := by rfl) (hpl : (backTo pos (starEach es X.env)).any (·.1) = false := by rfl) : PE X (.Call (.Name x p) (e :: es) [] pos) (tCall (spF X.K n fun ds => rzOk (fn ds)) [] E0 t) := by
  obtain ⟨f, fd, F, m, k1, b⟩ := D.ex
  exact pe_call ((F.imp fun _ _ _ _ q => spR_of q).mono hj) hr hg m k1 b .nil passL ha hdb he hpl
/-- called where it may raise -/
theorem pe_defR (D : DfX X.prog X.w X.K X.mg X.base j x ps (spR X.K C n fn)) (tk : Takes X W) (hr : Room k X.A) (hj : j ≤ k) (ha : PA X (e :: es) t) (hg : Gl X x := by rfl) (hdb : (x == ("__debug__" : Str)) = false := by decide)
    (he : starEach (e :: es) X.env = (false, eval e X.env) :: starEach es X.env := by rfl) (hpl : (backTo pos (starEach es X.env)).any (·.1) = false := by rfl) : PE X (.Call (.Name x p) (e :: es) [] pos) (tCallS (spR X.K C n fn) (WE W) t) := by
  obtain ⟨f, fd, F, m, k1, b⟩ := D.ex
  exact pe_callS (F.mono hj) hr hg m k1 b (passAt tk) ha hdb he hpl
end
end DL

namespace DL
open PySem PySem.Spec PyProof.Rows L2
open Evl (Ex)
open RZ
/-! ### what may be asked of a caught error -/
section
variable {X : Cx}
theorem hld_at {P : Program} {w : World} {H : Hp} {h : Heap} {a : Addr} {cls : Value} {d : Option Addr} (hok : HOk P w H h) (he : H a = some (hld a cls d)) : ∃ (oe : Obj) (vs : Array Value), h.get? a = some oe ∧ Zc cls d oe ∧ oe.data = .fields vs := by
  have x : ObjOk P w H h a (.ext fun h => ∃ (oe : Obj) (vs : Array Value), h.get? a = some oe ∧ Zc cls d oe ∧ oe.data = .fields vs) := hok a _ he
  exact x.1
/-- e.f -/
def tFldH (K : PySem.W.Frag) (f : Str) (te : TE) : TE := fun σ H Q => te σ H fun x H1 => ∃ (a C dx : Addr) (fs : List (Str × V)) (v : V), x = .ref a ∧ ExcC K C ∧ PySem.W.findIn K (.ref C) f = some none ∧ H1 a = some (hld a (.ref C) (some dx)) ∧ H1 dx = some (.xd fs) ∧ fs.lookup f = some v ∧ Q v H1
theorem pe_fldH {e : Expr} {te : TE} {f : Str} {pos : Pos} (he : PE X e te) (hb : attributeBase e f X.env (eval e X.env) = eval e X.env := by rfl) : PE X (.Attribute e f pos) (tFldH X.K f te) := ⟨fun pins s σ H Q I h => by
  refine attr_of hb (thn (he.run pins s σ H _ I h) fun u s1 ⟨x, H1, I1, rx, a, C, dx, fs, v, ex, T, no, ea, ed, hl, q⟩ => ?_)
  subst ex
  obtain rfl : u = Value.ref a := rx
  obtain ⟨oe, vs, ho, ⟨hc, hd⟩, hdat⟩ := hld_at I1.hok ea
  obtain ⟨mA, ns, rel⟩ : ∃ mA, s1.heap.Ns1 dx mA ∧ ∀ f, RelO (fs.lookup f) (mA f) := I1.hok _ _ ed
  obtain ⟨oD, hoD, look⟩ := lookIn_ns ns
  obtain ⟨u, hu, ru⟩ := RelO.some_of (v := v) (o := mA f) (by rw [← hl]; exact rel f)
  obtain ⟨cls, dd, dat, sl⟩ := oe
  simp only at hc hd hdat
  subst hc hd hdat
  have J : PySem.W.InstAt s1.heap a _ C (some oD) := ⟨ho, rfl, rfl, hoD⟩
  exact HandSPX.exc_get I1.kIn J T.hg T.hk T.hs (PySem.W.findObj_own T.hd no rfl (by rw [look, hu])) (handed_of ru) ⟨v, H1, I1.tok _, ru, q⟩⟩
/-- isinstance(e, c), c a built-in class -/
def rIsH (K : PySem.W.Frag) : List V → Hp → VK → Prop := fun xs H Q => ∃ (a C dx : Addr) (fs : List (Str × V)) (c : V) (cv : Value) (b : Bool), xs = [.ref a, c] ∧ ExcC K C ∧ H a = some (hld a (.ref C) (some dx)) ∧ H dx = some (.xd fs) ∧ (∀ u, RelV c u → u = cv) ∧ PySem.W.kitOne K (.ref C) cv = some b ∧ Q (.bl b) H
theorem call_isH : CallR X (.builtin "isinstance") (rIsH X.K) := by
  intro pins s σ H xs us Q I r h
  obtain ⟨a, C, dx, fs, c, cv, b, rfl, T, ea, ed, hcv, hk, q⟩ := h
  obtain ⟨u1, u2, rfl, r1, r2⟩ := vals2 r
  obtain rfl : u1 = Value.ref a := r1
  have e2 := hcv _ r2
  subst e2
  obtain ⟨oe, vs, ho, ⟨hc1, hd1⟩, hdat⟩ := hld_at I.hok ea
  obtain ⟨mA, ns, rel⟩ : ∃ mA, s.heap.Ns1 dx mA ∧ ∀ f, RelO (fs.lookup f) (mA f) := I.hok _ _ ed
  obtain ⟨oD, hoD, look⟩ := lookIn_ns ns
  obtain ⟨cd, hc, _⟩ := PySem.W.any_some T.hd
  obtain ⟨cls, dd, dat, sl⟩ := oe
  simp only at hc1 hd1 hdat
  subst hc1 hd1 hdat
  have J : PySem.W.InstAt s.heap a _ C (some oD) := ⟨ho, rfl, rfl, hoD⟩
  exact PySem.W.kia_one (PySem.W.kitx_exc (by rw [hc]; rfl) T.hg T.hk T.hs T.ha T.hn T.ht T.hm) I.kIn J hk (fun z => nomatch z) fun tk => ⟨.bl b, H, I.kept (t' := tk) fun _ _ z => z, rfl, q⟩
end
/-! ### calls by names alone -/
def permL {α : Type} (ix : List Nat) : List α → List α → List α
  | [], zs => ix.filterMap fun i => zs[i]?
  | _ :: _, _ => []
theorem perm_rel {ix : List Nat} {vs : List V} {us : List Value} {zs : List V} {ws : List Value} (h1 : Vals vs us) (h2 : Vals zs ws) : Vals (permL ix vs zs) (permL ix us ws) := by
  cases h1 with
  | cons _ _ => exact .nil
  | nil =>
    show Vals (ix.filterMap fun i => zs[i]?) (ix.filterMap fun i => ws[i]?)
    induction ix with
    | nil => exact .nil
    | cons i ix ih =>
      cases hz : zs[i]? with
      | none =>
        rw [List.filterMap_cons, List.filterMap_cons, hz, h2.none_of hz]
        exact ih
      | some z =>
        obtain ⟨u, hu, r⟩ := h2.get hz
        rw [List.filterMap_cons, List.filterMap_cons, hz, hu]
        exact .cons r ih
section
variable {K : PySem.W.Frag}
theorem perm_dta {ix : List Nat} {Hd : Hp} {zs : List V} {ds : List PyData} (h : DtA K Hd zs ds) : DtA K Hd (permL ix [] zs) (permL ix [] ds) := by
  show DtA K Hd (ix.filterMap fun i => zs[i]?) (ix.filterMap fun i => ds[i]?)
  induction ix with
  | nil => exact .nil
  | cons i ix ih =>
    cases hz : ds[i]? with
    | none =>
      have : zs[i]? = none := by
        rw [List.getElem?_eq_none_iff] at hz ⊢
        rw [h.length]; exact hz
      rw [List.filterMap_cons, List.filterMap_cons, hz, this]
      exact ih
    | some z =>
      obtain ⟨u, hu, r⟩ := h.got hz
      rw [List.filterMap_cons, List.filterMap_cons, hz, hu]
      exact .cons r ih
def sCallK {E : XK} (n : Nat) (ix : List Nat) (fn : List PyData → Option PyData) (a : SA K) : SX K := ⟨tCallK (spF K n fn) (permL ix) E tNil a.ta, fun Γ => (a.ev Γ).bind fun ds => if (permL ix [] ds).length = n then fn (permL ix [] ds) else none, fun {Γ d} h => by
  obtain ⟨ds, h1, h⟩ := bnd h
  by_cases c : (permL ix [] ds).length = n
  · rw [if_pos c] at h
    intro Hd0 H0 σ Hd H e Q q
    refine a.ok h1 _ _ σ Hd H e _ fun zs Hd1 H1 x1 d1 => ?_
    have d2 := perm_dta (ix := ix) d1
    exact ⟨by rw [d2.length]; exact c, Hd1, _, d, x1.i, d2, ⟨c, h⟩, fun v Hd' H' x2 dv => q v Hd' H' (x1.trans x2) dv⟩
  · rw [if_neg c] at h
    cases h⟩
end
/-- a def that may raise, called by names alone -/
structure DfKX (P : Program) (w : World) (K : PySem.W.Frag) (mg : Str → Option Value) (base : Heap) (k : Nat) (x : Str) (ps ks : List Str) (ix : List Nat) (sp : Sp) : Prop where
  ex : ∃ f fd, FnOk P w K mg base (L2.CX P w) k f fd ps sp ∧ mg x = some (.ref f) ∧ PySem.W.keepIn K (.ref f) = true ∧ KBinds K fd ps ks (permL ix) (permL ix)
section
variable {X : Cx} {x : Str} {ps ks : List Str} {n : Nat} {fn : List PyData → Option Rz} {C : Addr} {p pos : Pos} {kws : List Keyword} {tk : TA} {j k : Nat} {ix : List Nat}
theorem pe_defOK (D : DfKX X.prog X.w X.K X.mg X.base j x ps ks ix (spR X.K C n fn)) (hr : Room k X.A) (hj : j ≤ k) (hkw : PK X kws tk) (hg : Gl X x := by rfl) (hall : (backToKw pos (keywordEach kws X.env)).all (·.1.isSome) = true := by rfl) (hks : (backToKw pos (keywordEach kws X.env)).filterMap (·.1) = ks := by rfl)
    (hdb : (x == ("__debug__" : Str)) = false := by decide) (hpl : ((backTo pos (starEach [] X.env)).any (·.1) || (backToKw pos (keywordEach kws X.env)).any (·.1.isNone)) = false := by rfl) :
    PE X (.Call (.Name x p) [] kws pos) (tCallK (spF X.K n fun ds => rzOk (fn ds)) (permL ix) E0 tNil tk) := by
  obtain ⟨f, fd, F, m, k1, b⟩ := D.ex
  refine ⟨fun pins s σ H Q I h => ?_⟩
  refine wpAny_Call_Name_kw (ld_glob I hg m ?_ hdb)
  refine PySem.W.callWith_KW0 (h₀ := X.base) I.ok.mod.kin k1 hall (thn (hkw.run pos pins s σ H _ I h) fun ws s2 ⟨zs, H2, I2, rz, q2⟩ => ⟨I2.kIn, ?_⟩) hpl
  rw [hks]
  exact run_fnk (us := []) (vs := []) ((F.imp fun _ _ _ _ q => spR_of q).mono hj) hr b passL I2 .nil rz q2
end
end DL

namespace DL
open PySem PySem.Spec PyProof.Rows L2
open Evl (Ex)
open RZ
/-! ### CHARTS read off data -/
def mapO {α β : Type} (f : α → Option β) : List α → Option (List β)
  | [] => some []
  | x :: r => (f x).bind fun y => (mapO f r).bind fun ys => some (y :: ys)
theorem mapO_paired {α β : Type} {f : α → Option β} : ∀ {xs : List α} {ys : List β}, mapO f xs = some ys → Paired (fun x y => f x = some y) xs ys
  | [], _, h => by cases h; exact .nil
  | x :: r, ys, h => by
    obtain ⟨y, h1, hx⟩ := bnd h
    clear h
    obtain ⟨zs, h2, h⟩ := bnd hx
    cases h
    exact .cons h1 (mapO_paired h2)
theorem mapO_map {α β : Type} {f : α → Option β} {g : α → β} : ∀ {xs : List α}, (∀ x ∈ xs, f x = some (g x)) → mapO f xs = some (xs.map g)
  | [], _ => rfl
  | x :: r, h => by
    show (f x).bind _ = _
    rw [h x List.mem_cons_self, Option.bind_some, mapO_map fun y hy => h y (List.mem_cons_of_mem _ hy)]
    rfl
theorem paired_imp {α β : Type} {F G : α → β → Prop} (h : ∀ x y, F x y → G x y) : ∀ {xs : List α} {ys : List β}, Paired F xs ys → Paired G xs ys
  | _, _, .nil => .nil
  | _, _, .cons a b => .cons (h _ _ a) (paired_imp h b)
def stOf (d : PyData) : Option Str := match rowOf d with
  | some [.str n, _] => some n
  | _ => none
def mvOf (d : PyData) : Option (Str × Str) := match rowOf d with
  | some [.str a, .str b] => some (a, b)
  | _ => none
theorem rowOf_seq {d : PyData} {ds : List PyData} (h : rowOf d = some ds) : seqOf d = some ds := by
  cases d <;> first | exact h | cases h
theorem stOf_spec {d : PyData} {n : Str} (h : stOf d = some n) : ∃ w, seqOf d = some [.str n, w] := by
  unfold stOf at h
  split at h
  · rename_i w z; cases h; exact ⟨_, rowOf_seq z⟩
  · cases h
theorem mvOf_spec {d : PyData} {p : Str × Str} (h : mvOf d = some p) : seqOf d = some [.str p.1, .str p.2] := by
  unfold mvOf at h
  split at h
  · rename_i z; cases h; exact rowOf_seq z
  · cases h
def chartB (ns : List Str) (ms : List (Str × Str)) : Bool := decide ns.Nodup && ms.all (fun p => decide (p.1 ∈ ns) && decide (p.2 ∈ ns)) && decide (ns.length ≤ 1000) && decide (ms.length ≤ 31)
def chartOf (d : PyData) : Option (List Str × List (Str × Str)) := match rowOf d with
  | some [_, st, mv] => (rowOf st).bind fun sts => (mapO stOf sts).bind fun ns => (rowOf mv).bind fun mvs => (mapO mvOf mvs).bind fun ms => if chartB ns ms = true then some (ns, ms) else none
  | _ => none
theorem chartOf_ok {d : PyData} {ns : List Str} {ms : List (Str × Str)} (h : chartOf d = some (ns, ms)) : ChartIs d ns ms := by
  unfold chartOf at h
  split at h
  · rename_i s st mv hd
    obtain ⟨sts, h1, hx⟩ := bnd h
    clear h
    obtain ⟨ns', h2, hy⟩ := bnd hx
    clear hx
    obtain ⟨mvs, h3, hz⟩ := bnd hy
    clear hy
    obtain ⟨ms', h4, h⟩ := bnd hz
    clear hz
    by_cases c : chartB ns' ms' = true
    · rw [if_pos c] at h
      cases h
      simp only [chartB, Bool.and_eq_true, decide_eq_true_eq, List.all_eq_true] at c
      obtain ⟨⟨⟨c1, c2⟩, c3⟩, c4⟩ := c
      exact ⟨⟨s, st, mv, sts, mvs, rowOf_seq hd, rowOf_seq h1, rowOf_seq h3, paired_imp (fun _ _ q => stOf_spec q) (mapO_paired h2), paired_imp (fun _ _ q => mvOf_spec q) (mapO_paired h4)⟩, c1, fun p hp => c2 p hp, c3, c4⟩
    · rw [if_neg c] at h
      cases h
  · cases h
def fnNames : List PyData → Option PyData
  | [d] => (chartOf d).bind fun c => some (.tuple (c.1.map .str))
  | _ => none
def fnNear : List PyData → Option PyData
  | [d] => (chartOf d).bind fun c => some (nearD c.1 c.2)
  | _ => none
theorem fnNames_dom {ds : List PyData} {r : PyData} (h : fnNames ds = some r) : domNames ds r := by
  unfold fnNames at h
  split at h
  · obtain ⟨c, h1, h⟩ := bnd h
    cases h
    exact ⟨_, _, _, rfl, chartOf_ok h1, rfl⟩
  · cases h
theorem fnNear_dom {ds : List PyData} {r : PyData} (h : fnNear ds = some r) : domNear ds r := by
  unfold fnNear at h
  split at h
  · obtain ⟨c, h1, h⟩ := bnd h
    cases h
    exact ⟨_, _, _, rfl, chartOf_ok h1, rfl⟩
  · cases h
/-- from a promise by a relation to one by a function -/
theorem spF_of {K : PySem.W.Frag} {n : Nat} {fn : List PyData → Option PyData} {dom : List PyData → PyData → Prop} (h : ∀ ds r, ds.length = n → fn ds = some r → dom ds r) : ∀ vs H Q E, spF K n fn vs H Q E → spD K n dom vs H Q E := fun vs H Q E ⟨hl, Hd, ds, r, e, hd, ⟨hl2, hr⟩, q⟩ => ⟨hl, Hd, ds, r, e, hd, h ds r hl2 hr, q⟩
/-- the first NAME that is no state's -/
def fnChk : List PyData → Option Rz
  | [d, wd] => (chartOf d).bind fun c => (match wd with | .tuple us => strL us | _ => none).bind fun ss => match ss.find? (fun s => !decide (s ∈ c.1)) with
    | none => some (.ok .none)
    | some s => some (.er s)
  | _ => none
theorem first_bad {α : Type} {p : α → Bool} : ∀ {ss : List α} {k : Nat} {s : α}, (∀ x ∈ ss.take k, p x = false) → ss[k]? = some s → p s = true → ss.find? p = some s
  | [], k, s, _, h, _ => by simp at h
  | x :: r, 0, s, _, h, hp => by
    cases h
    rw [List.find?_cons, hp]
  | x :: r, k + 1, s, ha, h, hp => by
    rw [List.find?_cons, ha x (by simp)]
    exact first_bad (fun y hy => ha y (by rw [List.take_succ_cons]; exact List.mem_cons_of_mem _ hy)) (by simpa using h) hp
/-- an own class like NoName -/
structure Nn (P : Program) (w : World) (K : PySem.W.Frag) (mg : Str → Option Value) (base : Heap) (C : Addr) : Prop where
  m : mg "NoName" = some (.ref C)
  own : ∃ (B newId initId : String) (bmB : List Value), OwnE K C B newId initId bmB
  xc : ExcC K C
  init : ∃ (fI : Addr) (fd : FuncData), PySem.W.findIn K (.ref C) "__init__" = some (some (.ref fI)) ∧ PySem.W.typeIn K (.ref fI) = some (.type "function") ∧ FnOk P w K mg base CX0 1 fI fd ["self", "name"] (spE1 K "name") ∧ Binds K fd ["self", "name"] []
  r1 : PySem.W.subIn K (.ref C) (.type "BaseException") = some true
  r2 : PySem.W.typeIn K (.ref C) = some (.type "type")
  tk : PySem.W.takerIn K C "name" = some none
  no : PySem.W.findIn K (.ref C) "name" = some none
  exm : PySem.W.exmOne K (.ref C) (.ref C) = some true
  kit : PySem.W.kitOne K (.ref C) (.type "LookupError") = some true
section
variable {X : Cx} {C : Addr} {e : Expr} {te : TE} {p pos pos2 : Pos} {k : Nat} {W : WX}
/-- raise NoName(e) -/
theorem ps_raiseN (hc : X.calm = true) (tk : Takes X W) (N : Nn X.prog X.w X.K X.mg X.base C) (hr : Room k X.A) (hk : 2 ≤ k) (he : PE X e te) (hg : Gl X "NoName" := by rfl) (hs : starEach [e] X.env = (false, eval e X.env) :: starEach [] X.env := by rfl) (hpl : (backTo pos (starEach [] X.env)).any (·.1) = false := by rfl) :
    PS X (.Raise (some (.Call (.Name "NoName" p) [e] [] pos)) none pos2) (fun _ σ H => tMkO C (spE1 X.K "name") [] (tCons te tNil) σ H fun cls d H' => W cls d σ H') := by
  obtain ⟨_, _, _, _, T⟩ := N.own
  obtain ⟨fI, fd, h1, h2, h3, h4⟩ := N.init
  exact ps_raise hc tk (pmk_own2 T (raises_own N.r1 N.r2) h1 h2 h3 (hr.mono hk) h4 hg N.m (pa_cons he pa_nil hs) (by decide) hs hpl)
end
end DL

namespace DL
open PySem PySem.Spec PyProof PyProof.Rows L2
open Evl (Ex)
open RZ
/-! ### name = {..} on one line, the name a local -/
section
variable {X : Cx}
theorem sw_dict {kx vx : Expr} {gs : List Comprehension} {sc : Scope} {p q : Pos} {y : Str} {l : Nat} {env : Env}
    (hk : env.scope.kind = .function) (hy : env.scope.names.lookup y = some .local)
    (hl : (q.line == p.line) = true) (ha : (sc.names.any fun (n, k) => n == y && (k == .local || k == .cell)) = false) :
    swapsWith (.DictComp kx vx gs sc p) (some (.Name y q)) l env = pure true := by
  have e1 : env.kindOf y = some .local := hy
  have e2 : env.blockKind = .function := by unfold Env.blockKind; rw [hk]; rfl
  unfold swapsWith
  simp only [e2, e1, ha, Expr.pos, hl]; rfl
theorem ps_setDc {i : Nat} {y : Str} {py : Pos} {kx vx tg iter : Expr} {sc : Scope} {own : List (Str × Nat)} {pos sp : Pos}
    {wi : TI} {g : TG} {tk tv : TE}
    (hc : X.calm = true) (hN : X.N.Nodup) (hy : X.N[i]? = some y) (hyl : X.env.scope.names.lookup y = some .local)
    (hsw : swapsWith (.DictComp kx vx [⟨tg, iter, [], 0⟩] sc pos) (some (.Name y py)) sp.line X.env = pure true)
    (hi : PI X tg iter wi) (ok : BlkOk X.N X.env.scope sc own)
    (hg : ∀ (s : Shared) (H : Hp) (C : Addr) (cl : List (Str × Addr)) (fp : List Addr),
      PG (X.blk s H sc (compEnvC sc cl C X.env) fp) tg g)
    (hk : ∀ (s : Shared) (H : Hp) (C : Addr) (cl : List (Str × Addr)) (fp : List Addr),
      PE (X.blk s H sc (compEnvC sc cl C X.env) fp) kx tk)
    (he : ∀ (s : Shared) (H : Hp) (C : Addr) (cl : List (Str × Addr)) (fp : List Addr),
      PE (X.blk s H sc (compEnvC sc cl C X.env) fp) vx tv)
    (hs : ∀ x, foldedSetIterable iter X.env x = pure x := by intro _; rfl) :
    PS X (.Assign [.Name y py] (.DictComp kx vx [⟨tg, iter, [], 0⟩] sc pos) sp) (tAsg (tDc wi g tYes tk tv (own.map (·.2))) (gName i)) := by
  refine ⟨fun pins s σ H D I h => ?_⟩
  rw [exec_Assign_Name_used _ _ _ _ hsw]
  refine wpAny_bind (wpAny_standAt (wpAny_bind ?_))
  show wpAny _ X.A (do let _ ← comprehension (.DictComp kx vx [⟨tg, iter, [], 0⟩] sc pos) sc X.env (firstIterPos [⟨tg, iter, [], 0⟩] pos) newDict false (eval iter X.env) (some (assign (.Name y py) X.env))) _ _ s
  have h1 : tDc wi g tYes tk tv (own.map (·.2)) σ H (fun x H1 => gName i x σ H1 D.nx) := h
  refine wpAny_bind (thn (dc_core (Qf := fun _ s' => SP X pins D .next s') hc hN I hi ok hg (fun _ _ _ _ _ => pts_nil) hk he hs h1 fun L C s' m H' I' q hn f => ?_) fun _ s' hq => wpAny_pure (wpAny_pure hq))
  show wpAny _ _ (assign (.Name y py) X.env (.ref L)) _ _ _
  refine wpAny_assign_Name (store_ok2 (v := V.ref L) I' hN hy (.inl hyl) rfl (fun s2 I2 ⟨a, sb, ha⟩ => ?_) (.inr hyl))
  obtain ⟨f0, f1, f2, f3, f4, f5⟩ := f
  have ne : C ≠ a := ha.elim (fun z => by rw [z]; exact f1) fun z => fun e => f4 y a z e.symm
  refine ⟨m, hn.sameBut sb ne, fun h3 sb3 => ⟨_, H', I2.turned (t' := s2.toks) (fun b o hb e => (sb3.2 b hb).trans e) f0 f1 f3 f4 f5, q⟩⟩
/-- over a dict that is walked -/
theorem ps_setDcL {st : Stmt} {te : TE} {i : Nat} (h : PS X st (tAsg te (gName i))) : PS X st (tAsg (tLockE te) (gName i)) := ps_lock h
end
section
variable {K : PySem.W.Frag}
/-- enumerate(text) -/
def iEnS (a : SA K) : SI K := ⟨iEnumS a.ta, fun Γ => (a.ev Γ).bind fun x => match x with | [.str s] => some (enumD (charsD s)) | _ => none, fun {Γ ds} h => by
  obtain ⟨x, h1, h⟩ := bnd h
  split at h
  · cases h; exact ei_enumS (a.ok h1)
  · cases h⟩
/-- a def with a promise by a relation, taken as a function -/
noncomputable def fnOf (dom : List PyData → PyData → Prop) (ds : List PyData) : Option PyData := by
  classical
  exact if h : ∃ r, dom ds r then some h.choose else none
theorem fnOf_dom {dom : List PyData → PyData → Prop} {ds : List PyData} {r : PyData} (h : fnOf dom ds = some r) : dom ds r := by
  unfold fnOf at h
  split at h
  · rename_i c; cases h; exact c.choose_spec
  · cases h
theorem fnOf_eq {dom : List PyData → PyData → Prop} {ds : List PyData} {r : PyData} (h : dom ds r) (u : ∀ r', dom ds r' → r' = r) : fnOf dom ds = some r := by
  have c : ∃ r, dom ds r := ⟨r, h⟩
  unfold fnOf
  rw [dif_pos c, u _ c.choose_spec]
/-- data of the same kinds: the law's look at them, as a function -/
def fnSame (n : Nat) : List PyData → Option PyData
  | [g, d] => if (decide (d.depth < n) && fine g && fine d) = true then some (.bool (sameD g d)) else none
  | _ => none
theorem fnSame_dom {n : Nat} {ds : List PyData} {r : PyData} (h : fnSame n ds = some r) : domSame n ds r := by
  unfold fnSame at h
  split at h
  · rename_i g d
    by_cases c : (decide (d.depth < n) && fine g && fine d) = true
    · rw [if_pos c] at h
      cases h
      simp only [Bool.and_eq_true, decide_eq_true_eq] at c
      exact ⟨g, d, rfl, c.1.1, c.1.2, c.2, rfl⟩
    · rw [if_neg c] at h; cases h
  · cases h
end
section
variable {P : Program} {w : World} {K : PySem.W.Frag} {mg : Str → Option Value} {base : Heap}
/-- both ways of calling a def that may raise -/
theorem Tx.okXK {x : Str} {ps ks N : List Str} {ix : List Nat} {st : Stmt} {k : Nat} {sp : Sp} (T : Tx K mg x ps st) (S : FnScope N ps (defScope st)) (len : ∀ vs H Q E, sp vs H Q E → vs.length = ps.length)
    (hkb : ∀ (kV doc pm : Value) (an : Option Addr) (cdv ct : Value) (us ws : List Value), (permL ix us ws).length = ps.length →
      bindArgs (PySem.W.fnOf x x (defArgs st) (defBody st) (defScope st) .none kV doc pm an cdv ct) ⟨us, ks.zip ws⟩ = pure (ps.zip (permL ix us ws)))
    (hbody : ∀ (f : Addr) (cdv : Value) (A : Around) (outer : List Env) (s : Shared) (H : Hp) (vs : List V) (Q : VK) (E : XK), Room k (A.deeper (envOfC x (defScope st) s.heap.objs.size f cdv)) → sp vs H Q E →
      ∃ t, PSs (cxOf (L2.CX P w) P w K mg base N x (defScope st) f cdv A outer s H E) (defBody st) t ∧ t { nx := fun _ H' => Q .non H', rt := Q } (L2.start N vs) H) :
    DfX P w K mg base (k + 1) x ps sp ∧ DfKX P w K mg base (k + 1) x ps ks ix sp := by
  obtain ⟨f, fd, F, m, b⟩ := T.ex
  have F' := F.okX S len (hbody f)
  refine ⟨⟨f, fd, F', m, F.kp, b⟩, ⟨f, fd, F', m, F.kp, ?_⟩⟩
  obtain ⟨oc, od, kV, doc, pm, an, cdv, ct, osl, rfl, lk, hcd⟩ := F.ex
  exact ⟨fun s us ws _ hl => BindsTo.of_eq (hkb kV doc pm an cdv ct us ws hl), fun r1 r2 => perm_rel r1 r2⟩
end
section
variable {X : Cx} {K : PySem.W.Frag} {x : Str} {ps ks : List Str} {n : Nat} {fn : List PyData → Option Rz} {C : Addr} {p pos : Pos} {e : Expr} {es : List Expr} {t : TA} {kws : List Keyword} {tk : TA} {j k : Nat} {ix : List Nat}
theorem pe_defO2 (D : DfX X.prog X.w X.K X.mg X.base j x ps (spR K C n fn)) (hr : Room k X.A) (hj : j ≤ k) (ha : PA X (e :: es) t) (hg : Gl X x := by rfl) (hdb : (x == ("__debug__" : Str)) = false := by decide)
    (he : starEach (e :: es) X.env = (false, eval e X.env) :: starEach es X.env := by rfl) (hpl : (backTo pos (starEach es X.env)).any (·.1) = false := by rfl) :
    PE X (.Call (.Name x p) (e :: es) [] pos) (tCall (spF K n fun ds => rzOk (fn ds)) [] E0 t) := by
  obtain ⟨f, fd, F, m, k1, b⟩ := D.ex
  exact pe_call ((F.imp fun _ _ _ _ q => spR_of q).mono hj) hr hg m k1 b .nil passL ha hdb he hpl
theorem pe_defOK2 (D : DfKX X.prog X.w X.K X.mg X.base j x ps ks ix (spR K C n fn)) (hr : Room k X.A) (hj : j ≤ k) (hkw : PK X kws tk) (hg : Gl X x := by rfl) (hall : (backToKw pos (keywordEach kws X.env)).all (·.1.isSome) = true := by rfl) (hks : (backToKw pos (keywordEach kws X.env)).filterMap (·.1) = ks := by rfl)
    (hdb : (x == ("__debug__" : Str)) = false := by decide) (hpl : ((backTo pos (starEach [] X.env)).any (·.1) || (backToKw pos (keywordEach kws X.env)).any (·.1.isNone)) = false := by rfl) :
    PE X (.Call (.Name x p) [] kws pos) (tCallK (spF K n fun ds => rzOk (fn ds)) (permL ix) E0 tNil tk) := by
  obtain ⟨f, fd, F, m, k1, b⟩ := D.ex
  refine ⟨fun pins s σ H Q I h => ?_⟩
  refine wpAny_Call_Name_kw (ld_glob I hg m ?_ hdb)
  refine PySem.W.callWith_KW0 (h₀ := X.base) I.ok.mod.kin k1 hall (thn (hkw.run pos pins s σ H _ I h) fun ws s2 ⟨zs, H2, I2, rz, q2⟩ => ⟨I2.kIn, ?_⟩) hpl
  rw [hks]
  exact run_fnk (us := []) (vs := []) ((F.imp fun _ _ _ _ q => spR_of q).mono hj) hr b passL I2 .nil rz q2
end
end DL

namespace DL
open PySem PySem.Spec PyProof PyProof.Rows L2
open RZ
/-! ### runs over rows of any length -/
theorem lcGo_map {item : PyData → Option (Option PyData)} {f : PyData → PyData} : ∀ {ds : List PyData}, (∀ d ∈ ds, item d = some (some (f d))) → lcGo item ds = some (ds.map f)
  | [], _ => rfl
  | d :: r, h => by
    show (item d).bind _ = _
    rw [h d List.mem_cons_self, Option.bind_some, lcGo_map fun e he => h e (List.mem_cons_of_mem _ he)]
    rfl
theorem lcGo_filter {item : PyData → Option (Option PyData)} {p : PyData → Bool} {f : PyData → PyData} : ∀ {ds : List PyData}, (∀ d ∈ ds, item d = some (if p d = true then some (f d) else none)) → lcGo item ds = some ((ds.filter p).map f)
  | [], _ => rfl
  | d :: r, h => by
    show (item d).bind _ = _
    rw [h d List.mem_cons_self, Option.bind_some, lcGo_filter fun e he => h e (List.mem_cons_of_mem _ he)]
    cases hp : p d with
    | true => rw [List.filter_cons_of_pos hp]; rfl
    | false => rw [List.filter_cons_of_neg (by rw [hp]; exact Bool.false_ne_true)]; rfl
theorem dcGo_map {item : PyData → Option (Str × PyData)} {F : Str → PyData} : ∀ {ns : List Str}, (∀ n ∈ ns, item (.str n) = some (n, F n)) → dcGo item (ns.map PyData.str) = some (ns.map fun n => (n, F n))
  | [], _ => rfl
  | n :: r, h => by
    show (item (.str n)).bind _ = _
    rw [h n List.mem_cons_self, Option.bind_some]
    have := dcGo_map (item := item) (F := F) fun e he => h e (List.mem_cons_of_mem _ he)
    rw [this]
    rfl
theorem nums_of : ∀ l : List Int, nums (l.map PyData.int) = some l
  | [] => rfl
  | i :: l => by
    show (nums (l.map PyData.int)).bind _ = _
    rw [nums_of l]
    rfl
theorem strL_of : ∀ l : List Str, strL (l.map PyData.str) = some l
  | [] => rfl
  | i :: l => by
    show (strL (l.map PyData.str)).bind _ = _
    rw [strL_of l]
    rfl
theorem forGo_inv {st : PyData → List G → Option Out} : ∀ {ds : List PyData} {Γ : List G} (I : Nat → List G → Prop), (∀ k d Γ, ds[k]? = some d → I k Γ → ∃ Δ, st d Γ = some (.nx Δ) ∧ I (k + 1) Δ) → I 0 Γ → ∃ Δ, forGo st ds Γ = some (.nx Δ) ∧ I ds.length Δ
  | [], Γ, I, _, h0 => ⟨Γ, rfl, h0⟩
  | d :: r, Γ, I, hs, h0 => by
    obtain ⟨Θ, h1, h2⟩ := hs 0 d Γ rfl h0
    obtain ⟨Δ, h3, h4⟩ := forGo_inv (ds := r) (Γ := Θ) (fun k => I (k + 1)) (fun k e Γ he hi => hs (k + 1) e Γ (by simpa using he) hi) h2
    refine ⟨Δ, ?_, h4⟩
    show (st d Γ).bind _ = _
    rw [h1]
    exact h3
section
variable {K : PySem.W.Frag}
theorem ev_seq {s r : SS K} {Γ Δ : List G} {o : Option Out} (h1 : s.ev Γ = some (.nx Δ)) (h2 : r.ev Δ = o) : (pSeq s r).ev Γ = o := by
  show (s.ev Γ).bind _ = _
  rw [h1]
  exact h2
theorem ev_set {i : Nat} {e : SX K} {Γ : List G} {d : PyData} (h : e.ev Γ = some d) : (pSet i e).ev Γ = some (.nx (Γ.set i (.dat d))) := by
  show (e.ev Γ).bind _ = _
  rw [h]
  rfl
theorem ev_ret {e : SX K} {Γ : List G} {d : PyData} (h : e.ev Γ = some d) : (pRet e).ev Γ = some (.rt d) := by
  show (e.ev Γ).bind _ = _
  rw [h]
  rfl
theorem ev_lc {it : SI K} {vs : List Nat} {g : SG K vs} {t : ST K} {e : SX K} {Γ : List G} {ds ys : List PyData} (h : it.ev Γ = some ds) (hl : ds.length ≤ 100000) (hg : lcGo (lcItem g t e Γ) ds = some ys) : (fLc it vs g t e).ev Γ = some ys := by
  show (it.ev Γ).bind _ = _
  rw [h, Option.bind_some, if_pos hl]
  exact hg
theorem ev_Fx {a : SF K} {Γ : List G} {ds : List PyData} (h : a.ev Γ = some ds) : a.x.ev Γ = some (.list ds) := by
  show (a.ev Γ).bind _ = _
  rw [h]
  rfl
theorem ev_Fq {a : SF K} {Γ : List G} {ds : List PyData} (h : a.ev Γ = some ds) : a.q.ev Γ = some (true, ds) := by
  show (a.ev Γ).bind _ = _
  rw [h]
  rfl
theorem ev_for {vs : List Nat} {it : SI K} {g : SG K vs} {body : SS K} {Γ : List G} {ds : List PyData} (I : Nat → List G → Prop) (h : it.ev Γ = some ds)
    (hs : ∀ k d Γ, ds[k]? = some d → I k Γ → ∃ Θ Δ, g.ev Γ d = some Θ ∧ body.ev Θ = some (.nx Δ) ∧ I (k + 1) Δ) (h0 : I 0 Γ) : ∃ Δ, (pFor it g body).ev Γ = some (.nx Δ) ∧ I ds.length Δ := by
  obtain ⟨Δ, h1, h2⟩ := forGo_inv (st := fun d Γ => (g.ev Γ d).bind fun Δ => body.ev Δ) I (fun k d Γ hd hi => by
    obtain ⟨Θ, Δ, a, b, c⟩ := hs k d Γ hd hi
    exact ⟨Δ, by show (g.ev Γ d).bind _ = _; rw [a]; exact b, c⟩) h0
  refine ⟨Δ, ?_, h2⟩
  show (it.ev Γ).bind _ = _
  rw [h]
  exact h1
theorem ev_call {E : XK} {n : Nat} {fn : List PyData → Option PyData} {a : SA K} {Γ : List G} {ds : List PyData} {r : PyData} (h : a.ev Γ = some ds) (hl : ds.length = n) (hf : fn ds = some r) : (sCall (E := E) n fn a).ev Γ = some r := by
  show (a.ev Γ).bind _ = _
  rw [h, Option.bind_some, if_pos hl]
  exact hf
theorem ev_sum {a : SQ K} {Γ : List G} {l : List Int} (h : a.ev Γ = some (true, l.map PyData.int)) : (sSum a).ev Γ = some (.int l.sum) := by
  show (a.ev Γ).bind _ = _
  rw [h, Option.bind_some, if_pos rfl, nums_of]
  rfl
theorem run_rt {N : List Str} {s : SS K} {ds : List PyData} {d : PyData} (h : s.ev (startG N ds) = some (.rt d)) : runF N s ds = some d := by
  show (s.ev (startG N ds)).bind _ = _
  rw [h]
  rfl
theorem item_mk {vs : List Nat} {g : SG K vs} {t : ST K} {e : SX K} {Γ Δ : List G} {d y : PyData} {b : Bool} (h1 : g.ev (wipeG Γ vs) d = some Δ) (h2 : t.ev Δ = some b) (h3 : e.ev Δ = some y) : lcItem g t e Γ d = some (if b = true then some y else none) := by
  show (g.ev (wipeG Γ vs) d).bind _ = _
  rw [h1, Option.bind_some, h2, Option.bind_some]
  cases b with
  | false => rfl
  | true =>
    show (e.ev Δ).bind _ = _
    rw [h3]
    rfl
theorem item_yes {vs : List Nat} {g : SG K vs} {e : SX K} {Γ Δ : List G} {d y : PyData} (h1 : g.ev (wipeG Γ vs) d = some Δ) (h3 : e.ev Δ = some y) : lcItem g tYs e Γ d = some (some y) := item_mk (t := tYs) (b := true) h1 rfl h3
theorem ev_and {a b : ST K} {Γ : List G} {x y : Bool} (h1 : a.ev Γ = some x) (h2 : b.ev Γ = some y) : (tAn a b).ev Γ = some (x && y) := by
  show (a.ev Γ).bind _ = _
  rw [h1, Option.bind_some]
  cases x with
  | false => rfl
  | true => exact h2
theorem ev_tst {a : SX K} {Γ : List G} {b : Bool} (h : a.ev Γ = some (.bool b)) : (tTst a).ev Γ = some b := by
  show (a.ev Γ).bind _ = _
  rw [h]
  rfl
theorem ev_val {a : SX K} {Γ : List G} {b : Bool} (h : a.ev Γ = some (.bool b)) : (tVal a).ev Γ = some b := by
  show (a.ev Γ).bind _ = _
  rw [h]
  rfl
theorem ev_op {r : R2} {F : F2 K r} {a b : SX K} {Γ : List G} {x y : PyData} {z : Option PyData} (h1 : a.ev Γ = some x) (h2 : b.ev Γ = some y) (h3 : F.f x y = z) : (sOp F a b).ev Γ = z := by
  show (a.ev Γ).bind _ = _
  rw [h1, Option.bind_some, h2]
  exact h3
end
section
variable {P : Program} {w : World} {K : PySem.W.Frag} {mg : Str → Option Value} {base : Heap}
theorem ok_fnE {x : Str} {ps N : List Str} {st : Stmt} {k n : Nat} (X : Tx K mg x ps st) (S : FnScope N ps (defScope st)) (hn : ps.length = n) (s : SS K)
    (hb : ∀ (f : Addr) (cdv : Value) (A : Around) (outer : List Env) (s' : Shared) (H : Hp) (E : XK), Room k (A.deeper (envOfC x (defScope st) s'.heap.objs.size f cdv)) → ∃ t, PSs (cxOf CX0 P w K mg base N x (defScope st) f cdv A outer s' H E).nox (defBody st) t ∧ t = s.ts) :
    Df P w K mg base (k + 1) x ps (spF K n (runF N s)) := ok_fn X S hn s fun f cdv A outer s' H E hr => by
  obtain ⟨t, h1, h2⟩ := hb f cdv A outer s' H E hr
  exact h2 ▸ h1
end
end DL

namespace DL
open PySem PySem.Spec PyProof PyProof.Rows L2
open Evl (Ex)
open RZ
/-! ### defs that may raise own errors with one field each, as functions -/
inductive Rw where
  | ok (d : PyData) | er (k : Nat) (y : PyData)
inductive OutX where
  | nx (Γ : List G) | rt (d : PyData) | er (k : Nat) (y : PyData)
/-- what an error's field may be here -/
def flatD : PyData → Option V
  | .str s => some (.str s)
  | .int i => some (.int i)
  | _ => none
theorem flat_dt {K : PySem.W.Frag} {H : Hp} {v u : V} {d : PyData} (h : Dt K H v d) (f : flatD d = some u) : v = u := by
  cases h <;> first | (cases f; rfl) | cases f
/-- who is called is ready for the k-th class with the field y -/
def PostE (es : List (Addr × Str)) (E : XK) (Hd H : Hp) (k : Nat) (y : PyData) : Prop := ∀ C f u, es[k]? = some (C, f) → flatD y = some u → ∀ dx H', Ext Hd H Hd H' → H dx = none → H' dx = some (.xd [(f, u)]) → E (.ref C) (some dx) H'
theorem PostE.ext {es : List (Addr × Str)} {E : XK} {Hd H Hd1 H1 : Hp} {k : Nat} {y : PyData} (e : Ex Hd H) (x : Ext Hd H Hd1 H1) (h : PostE es E Hd H k y) : PostE es E Hd1 H1 k y := fun C f u h1 h2 dx H' x2 n2 e2 =>
  h C f u h1 h2 dx H' ⟨.refl _, x.h.trans x2.h, e.trans (x.h.trans x2.h), fun _ _ h _ => h⟩ (Evl.fresh_back x.h n2) e2
def PostW (K : PySem.W.Frag) (es : List (Addr × Str)) (Q : VK) (E : XK) (Hd H : Hp) : Rw → Prop
  | .ok r => ∀ v Hd' H', Ext Hd H Hd' H' → Dt K Hd' v r → Q v H'
  | .er k y => PostE es E Hd H k y
def spW (K : PySem.W.Frag) (es : List (Addr × Str)) (n : Nat) (fn : List PyData → Option Rw) : Sp := fun vs H Q E => vs.length = n ∧ ∃ Hd ds z, Ex Hd H ∧ DtA K Hd vs ds ∧ ds.length = n ∧ fn ds = some z ∧ PostW K es Q E Hd H z
def rwOk : Option Rw → Option PyData
  | some (.ok d) => some d
  | _ => none
theorem spW_of {K : PySem.W.Frag} {es : List (Addr × Str)} {n : Nat} {fn : List PyData → Option Rw} {vs : List V} {H : Hp} {Q : VK} {E : XK} (h : spF K n (fun ds => rwOk (fn ds)) vs H Q E) : spW K es n fn vs H Q E := by
  obtain ⟨hl, Hd, ds, r, e, hd, ⟨hl2, hr⟩, q⟩ := h
  have hr : rwOk (fn ds) = some r := hr
  cases hf : fn ds with
  | none => rw [hf] at hr; cases hr
  | some z =>
    rw [hf] at hr
    cases z with
    | ok d => cases hr; exact ⟨hl, Hd, ds, _, e, hd, hl2, hf, q⟩
    | er k y => cases hr
def OutOkX (K : PySem.W.Frag) (es : List (Addr × Str)) (E : XK) (Hd0 H0 Hd : Hp) (D : Ends) : OutX → Prop
  | .nx Δ => ∀ σ' Hd' H', En K Hd0 H0 Δ σ' Hd' H' → Ex Hd Hd' → D.nx σ' H'
  | .rt d => ∀ v Hd' H', Ext Hd0 H0 Hd' H' → Dt K Hd' v d → D.rt v H'
  | .er k y => PostE es E Hd0 H0 k y
theorem OutOkX.mono {K : PySem.W.Frag} {es : List (Addr × Str)} {E : XK} {Hd0 H0 Hd Hd1 : Hp} {D : Ends} (x : Ex Hd Hd1) : ∀ {o : OutX}, OutOkX K es E Hd0 H0 Hd D o → OutOkX K es E Hd0 H0 Hd1 D o
  | .nx Δ, q => fun σ' Hd' H' en x' => q σ' Hd' H' en (x.trans x')
  | .rt d, q => q
  | .er k y, q => q
def SDX (K : PySem.W.Frag) (es : List (Addr × Str)) (E : XK) (ts : TS) (Γ : List G) (o : OutX) : Prop := ∀ (Hd0 H0 : Hp) (σ : L2.St) (Hd H : Hp), Ex Hd0 H0 → En K Hd0 H0 Γ σ Hd H → ∀ D : Ends, OutOkX K es E Hd0 H0 Hd D o → ts D σ H
structure SSX (K : PySem.W.Frag) (es : List (Addr × Str)) where
  ts : XK → TS
  ev : List G → Option OutX
  ok : ∀ {Γ : List G} {o : OutX}, ev Γ = some o → ∀ E, SDX K es E (ts E) Γ o
section
variable {K : PySem.W.Frag} {es : List (Addr × Str)}
def toX : Out → OutX
  | .nx Γ => .nx Γ
  | .rt d => .rt d
/-- what raises nothing -/
def xPure (s : SS K) : SSX K es := ⟨fun _ => s.ts, fun Γ => (s.ev Γ).bind fun o => some (toX o), fun {Γ o} h E => by
  obtain ⟨o1, h1, h⟩ := bnd h
  cases h
  intro Hd0 H0 σ Hd H e0 e D q
  refine s.ok h1 _ _ σ Hd H e D ?_
  cases o1 with
  | nx Δ => exact q
  | rt d => exact q⟩
def xSeq (s r : SSX K es) : SSX K es := ⟨fun E => tSeq (s.ts E) (r.ts E), fun Γ => (s.ev Γ).bind fun o => match o with | .nx Δ => r.ev Δ | .rt d => some (.rt d) | .er k y => some (.er k y), fun {Γ o} h E => by
  obtain ⟨o1, h1, h⟩ := bnd h
  intro Hd0 H0 σ Hd H e0 e D q
  refine s.ok h1 E _ _ σ Hd H e0 e _ ?_
  cases o1 with
  | nx Δ => exact fun σ' Hd' H' en x => r.ok h E _ _ σ' Hd' H' e0 en D (q.mono x)
  | rt d => cases h; exact q
  | er k y => cases h; exact q⟩
def wX (E : XK) : WX := fun cls d _ H => E cls d H
/-- i = f(..), f may raise -/
def xSetC (i n : Nat) (fn : List PyData → Option Rw) (a : SA K) : SSX K es := ⟨fun E => tAsg (tCallS (spW K es n fn) (WE (wX E)) a.ta) (gName i), fun Γ => (a.ev Γ).bind fun ds => if ds.length = n then (fn ds).bind fun z => (match z with | .ok d => some (.nx (Γ.set i (.dat d))) | .er k y => some (.er k y)) else none, fun {Γ o} h E => by
  obtain ⟨ds, h1, h⟩ := bnd h
  by_cases c : ds.length = n
  · rw [if_pos c] at h
    obtain ⟨z, h2, h⟩ := bnd h
    intro Hd0 H0 σ Hd H e0 e D q
    refine a.ok h1 _ _ σ Hd H e _ fun vs Hd1 H1 x1 d1 => ⟨by rw [d1.length]; exact c, Hd1, ds, z, x1.i, d1, c, h2, ?_⟩
    cases z with
    | ok d =>
      cases h
      exact fun v Hd2 H2 x2 dv => q _ Hd2 H2 (((e.ext x1).ext x2).set dv) (x1.d.trans x2.d)
    | er k y =>
      cases h
      exact PostE.ext e0 (e.x.trans x1) q
  · rw [if_neg c] at h
    cases h⟩
/-- f(..), f may raise -/
def xDropC (n : Nat) (fn : List PyData → Option Rw) (a : SA K) : SSX K es := ⟨fun E => tDrop (tCallS (spW K es n fn) (WE (wX E)) a.ta), fun Γ => (a.ev Γ).bind fun ds => if ds.length = n then (fn ds).bind fun z => (match z with | .ok d => some (.nx Γ) | .er k y => some (.er k y)) else none, fun {Γ o} h E => by
  obtain ⟨ds, h1, h⟩ := bnd h
  by_cases c : ds.length = n
  · rw [if_pos c] at h
    obtain ⟨z, h2, h⟩ := bnd h
    intro Hd0 H0 σ Hd H e0 e D q
    refine a.ok h1 _ _ σ Hd H e _ fun vs Hd1 H1 x1 d1 => ⟨by rw [d1.length]; exact c, Hd1, ds, z, x1.i, d1, c, h2, ?_⟩
    cases z with
    | ok d =>
      cases h
      exact fun v Hd2 H2 x2 dv => q _ Hd2 H2 ((e.ext x1).ext x2) (x1.d.trans x2.d)
    | er k y =>
      cases h
      exact PostE.ext e0 (e.x.trans x1) q
  · rw [if_neg c] at h
    cases h⟩
/-- return f(..), f may raise -/
def xRetC (n : Nat) (fn : List PyData → Option Rw) (a : SA K) : SSX K es := ⟨fun E => tRet (tCallS (spW K es n fn) (WE (wX E)) a.ta), fun Γ => (a.ev Γ).bind fun ds => if ds.length = n then (fn ds).bind fun z => (match z with | .ok d => some (.rt d) | .er k y => some (.er k y)) else none, fun {Γ o} h E => by
  obtain ⟨ds, h1, h⟩ := bnd h
  by_cases c : ds.length = n
  · rw [if_pos c] at h
    obtain ⟨z, h2, h⟩ := bnd h
    intro Hd0 H0 σ Hd H e0 e D q
    refine a.ok h1 _ _ σ Hd H e _ fun vs Hd1 H1 x1 d1 => ⟨by rw [d1.length]; exact c, Hd1, ds, z, x1.i, d1, c, h2, ?_⟩
    cases z with
    | ok d =>
      cases h
      exact fun v Hd2 H2 x2 dv => q v Hd2 H2 ((e.x.trans x1).trans x2) dv
    | er k y =>
      cases h
      exact PostE.ext e0 (e.x.trans x1) q
  · rw [if_neg c] at h
    cases h⟩
/-- what a raise of the class C with one field f asks of it -/
structure RsF (K : PySem.W.Frag) (C : Addr) (f : Str) : Prop where
  own : ∃ (B newId initId : String) (bmB : List Value), OwnE K C B newId initId bmB
  tk : PySem.W.takerIn K C f = some none
/-- raise C(e), C the k-th class -/
def xRaise (k : Nat) (C : Addr) (f : Str) (hk : es[k]? = some (C, f)) (R : RsF K C f) (e : SX K) : SSX K es := ⟨fun E => fun _ σ H => tMkO C (spE1 K f) [] (tCons e.te tNil) σ H fun cls d H' => wX E cls d σ H', fun Γ => (e.ev Γ).bind fun y => if (flatD y).isSome = true then some (.er k y) else none, fun {Γ o} h E => by
  obtain ⟨y, h1, h⟩ := bnd h
  by_cases c : (flatD y).isSome = true
  · rw [if_pos c] at h
    cases h
    obtain ⟨u, hu⟩ := Option.isSome_iff_exists.mp c
    obtain ⟨B, n1, n2, bm, T⟩ := R.own
    intro Hd0 H0 σ Hd H e0 en D q
    refine e.ok h1 _ _ σ Hd H en _ fun v Hd1 H1 x1 d1 => ?_
    have ev := flat_dt d1 hu
    subst ev
    have r1 := raise1 (K := K) (C := C) (f := f) (σ := [some v]) (H := H1) (i := 0) (y := v) (Q := fun cls d H' => wX E cls d σ H') T R.tk rfl (fun dx hdx => by
      have hx : H0 dx = none := Evl.fresh_back (en.x.trans x1).h hdx
      exact q C f v hk hu dx _ ⟨.refl _, (en.x.trans x1).h.mut hx, e0.trans ((en.x.trans x1).h.mut hx), fun _ _ h _ => h⟩ hx upd_same)
    obtain ⟨w, hw, r2⟩ := r1
    cases hw
    exact r2
  · rw [if_neg c] at h
    cases h⟩
def xIf (t : ST K) (a b : SSX K es) : SSX K es := ⟨fun E => tIfS t.tt (a.ts E) (b.ts E), fun Γ => (t.ev Γ).bind fun c => if c = true then a.ev Γ else b.ev Γ, fun {Γ o} h E => by
  obtain ⟨c, h1, h⟩ := bnd h
  intro Hd0 H0 σ Hd H e0 e D q
  refine t.ok h1 _ _ σ Hd H e _ fun Hd1 H1 x1 => ?_
  cases c with
  | true => exact iteT (a.ok h E _ _ σ Hd1 H1 e0 (e.ext x1) D (q.mono x1.d))
  | false => exact iteF (b.ok h E _ _ σ Hd1 H1 e0 (e.ext x1) D (q.mono x1.d))⟩
def forGoX (st : PyData → List G → Option OutX) : List PyData → List G → Option OutX
  | [], Γ => some (.nx Γ)
  | d :: r, Γ => (st d Γ).bind fun o => match o with
    | .nx Θ => forGoX st r Θ
    | .rt v => some (.rt v)
    | .er k y => some (.er k y)
def xFor {vs : List Nat} (it : SI K) (g : SG K vs) (body : SSX K es) : SSX K es := ⟨fun E => tFor it.wi g.g (body.ts E), fun Γ => (it.ev Γ).bind fun ds => forGoX (fun d Γ => (g.ev Γ d).bind fun Δ => body.ev Δ) ds Γ, fun {Γ o} h E => by
  obtain ⟨ds, h1, hg⟩ := bnd h
  intro Hd0 H0 σ Hd H e0 e D q
  refine it.ok h1 _ _ σ Hd H e _ fun J Hd1 H1 x1 ok => ?_
  refine ⟨fun k m σ' H' => m = ds.length - k ∧ k ≤ ds.length ∧ ∃ Hd' Γk, Ex Hd1 Hd' ∧ En K Hd0 H0 Γk σ' Hd' H' ∧ forGoX (fun d Γ => (g.ev Γ d).bind fun Δ => body.ev Δ) (ds.drop k) Γk = some o, ⟨ds.length, rfl, Nat.zero_le _, Hd1, Γ, .refl _, e.ext x1, by rw [List.drop_zero]; exact hg⟩, ?_⟩
  rintro k m σ' H' ⟨rfl, hk, Hd', Γk, xd, en, hgo⟩
  obtain ⟨stp, go⟩ := ok Hd' H' xd en.x.i
  by_cases hlt : k < ds.length
  · have hd : ds[k]? = some ds[k] := by simp [hlt]
    obtain ⟨gi, yl⟩ := go k _ hd
    rw [List.drop_eq_getElem_cons hlt] at hgo
    obtain ⟨o1, h1, hgo⟩ := bnd hgo
    obtain ⟨Δ, hgd, hsd⟩ := bnd h1
    refine .inr ⟨gi, fun σ'' H'' => ∃ Hd'' Γk', Ex Hd1 Hd'' ∧ En K Hd0 H0 Γk' σ'' Hd'' H'' ∧ forGoX (fun d Γ => (g.ev Γ d).bind fun Δ => body.ev Δ) (ds.drop (k + 1)) Γk' = some o, fun σ'' H'' w => ⟨ds.length - (k + 1), by omega, rfl, hlt, w⟩, fun x H2 y2 => ?_⟩
    obtain ⟨Hd2, x2, d2⟩ := yl x H2 y2
    refine g.ok hgd _ _ σ' Hd2 H2 x (en.ext x2) d2 _ fun σ2 e2 _ => body.ok hsd E _ _ σ2 Hd2 H2 e0 e2 _ ?_
    cases o1 with
    | nx Θ => exact fun σ3 Hd3 H3 e3 x3 => ⟨Hd3, Θ, xd.trans (x2.d.trans x3), e3, hgo⟩
    | rt v =>
      cases hgo
      exact q
    | er k y =>
      cases hgo
      exact q
  · have ek : k = ds.length := by omega
    subst ek
    rw [List.drop_length] at hgo
    cases hgo
    exact .inl ⟨stp, q σ' Hd' H' en (x1.d.trans xd)⟩⟩
/-! ### a def's run -/
def runX (N : List Str) (s : SSX K es) (ds : List PyData) : Option Rw := (s.ev (startG N ds)).bind fun o => match o with
  | .rt d => some (.ok d)
  | .nx _ => some (.ok .none)
  | .er k y => some (.er k y)
theorem runX_ok {N : List Str} {s : SSX K es} {vs : List V} {ds : List PyData} {Hd H : Hp} {Q : VK} {E : XK} {z : Rw} (e : Ex Hd H) (h : DtA K Hd vs ds) (hr : runX N s ds = some z) (q : PostW K es Q E Hd H z) : s.ts E { nx := fun _ H' => Q .non H', rt := Q } (L2.start N vs) H := by
  obtain ⟨o, h1, h2⟩ := bnd hr
  refine s.ok h1 E _ _ _ _ _ e (start_en e h) _ ?_
  cases o with
  | rt d => cases h2; exact q
  | nx Θ => cases h2; exact fun σ' Hd' H' en _ => q .non Hd' H' en.x .non
  | er k y => cases h2; exact q
end
section
variable {P : Program} {w : World} {K : PySem.W.Frag} {mg : Str → Option Value} {base : Heap} {es : List (Addr × Str)}
/-- a def whose body is s, and that may raise -/
theorem ok_fnX {x : Str} {ps N : List Str} {st : Stmt} {k n : Nat} (X : Tx K mg x ps st) (S : FnScope N ps (defScope st)) (hn : ps.length = n) (s : SSX K es)
    (hb : ∀ (f : Addr) (cdv : Value) (A : Around) (outer : List Env) (s' : Shared) (H : Hp) (E : XK), Room k (A.deeper (envOfC x (defScope st) s'.heap.objs.size f cdv)) → ∃ t, PSs (cxOf (L2.CX P w) P w K mg base N x (defScope st) f cdv A outer s' H E) (defBody st) t ∧ t = s.ts E) :
    DfX P w K mg base (k + 1) x ps (spW K es n (runX N s)) :=
  X.okX S (fun vs H Q E h => h.1.trans hn.symm) fun f cdv A outer s' H vs Q E hr h => by
    obtain ⟨hl, Hd, ds, z, e, hd, hl2, hf, q⟩ := h
    obtain ⟨t, h1, rfl⟩ := hb f cdv A outer s' H E hr
    exact ⟨_, h1, runX_ok e hd hf q⟩
theorem ok_fnXK {x : Str} {ps ks N : List Str} {ix : List Nat} {st : Stmt} {k n : Nat} (X : Tx K mg x ps st) (S : FnScope N ps (defScope st)) (hn : ps.length = n) (s : SSX K es)
    (hkb : ∀ (kV doc pm : Value) (an : Option Addr) (cdv ct : Value) (us ws : List Value), (permL ix us ws).length = ps.length →
      bindArgs (PySem.W.fnOf x x (defArgs st) (defBody st) (defScope st) .none kV doc pm an cdv ct) ⟨us, ks.zip ws⟩ = pure (ps.zip (permL ix us ws)))
    (hb : ∀ (f : Addr) (cdv : Value) (A : Around) (outer : List Env) (s' : Shared) (H : Hp) (E : XK), Room k (A.deeper (envOfC x (defScope st) s'.heap.objs.size f cdv)) → ∃ t, PSs (cxOf (L2.CX P w) P w K mg base N x (defScope st) f cdv A outer s' H E) (defBody st) t ∧ t = s.ts E) :
    DfX P w K mg base (k + 1) x ps (spW K es n (runX N s)) ∧ DfKX P w K mg base (k + 1) x ps ks ix (spW K es n (runX N s)) :=
  X.okXK S (fun vs H Q E h => h.1.trans hn.symm) hkb fun f cdv A outer s' H vs Q E hr h => by
    obtain ⟨hl, Hd, ds, z, e, hd, hl2, hf, q⟩ := h
    obtain ⟨t, h1, rfl⟩ := hb f cdv A outer s' H E hr
    exact ⟨_, h1, runX_ok e hd hf q⟩
end
section
variable {X : Cx} {K : PySem.W.Frag} {es : List (Addr × Str)} {x : Str} {ps ks : List Str} {n : Nat} {fn : List PyData → Option Rw} {p pos : Pos} {e : Expr} {l : List Expr} {t : TA} {kws : List Keyword} {tk : TA} {j k : Nat} {ix : List Nat} {W : WX}
/-- called where it does not raise -/
theorem pe_wO (D : DfX X.prog X.w X.K X.mg X.base j x ps (spW K es n fn)) (hr : Room k X.A) (hj : j ≤ k) (ha : PA X (e :: l) t) (hg : Gl X x := by rfl) (hdb : (x == ("__debug__" : Str)) = false := by decide)
    (he : starEach (e :: l) X.env = (false, eval e X.env) :: starEach l X.env := by rfl) (hpl : (backTo pos (starEach l X.env)).any (·.1) = false := by rfl) : PE X (.Call (.Name x p) (e :: l) [] pos) (tCall (spF K n fun ds => rwOk (fn ds)) [] E0 t) := by
  obtain ⟨f, fd, F, m, k1, b⟩ := D.ex
  exact pe_call ((F.imp fun _ _ _ _ q => spW_of q).mono hj) hr hg m k1 b .nil passL ha hdb he hpl
/-- called where it may raise -/
theorem pe_wR (D : DfX X.prog X.w X.K X.mg X.base j x ps (spW K es n fn)) (tk : Takes X W) (hr : Room k X.A) (hj : j ≤ k) (ha : PA X (e :: l) t) (hg : Gl X x := by rfl) (hdb : (x == ("__debug__" : Str)) = false := by decide)
    (he : starEach (e :: l) X.env = (false, eval e X.env) :: starEach l X.env := by rfl) (hpl : (backTo pos (starEach l X.env)).any (·.1) = false := by rfl) : PE X (.Call (.Name x p) (e :: l) [] pos) (tCallS (spW K es n fn) (WE W) t) := by
  obtain ⟨f, fd, F, m, k1, b⟩ := D.ex
  exact pe_callS (F.mono hj) hr hg m k1 b (passAt tk) ha hdb he hpl
theorem pe_wOK (D : DfKX X.prog X.w X.K X.mg X.base j x ps ks ix (spW K es n fn)) (hr : Room k X.A) (hj : j ≤ k) (hkw : PK X kws tk) (hg : Gl X x := by rfl) (hall : (backToKw pos (keywordEach kws X.env)).all (·.1.isSome) = true := by rfl) (hks : (backToKw pos (keywordEach kws X.env)).filterMap (·.1) = ks := by rfl)
    (hdb : (x == ("__debug__" : Str)) = false := by decide) (hpl : ((backTo pos (starEach [] X.env)).any (·.1) || (backToKw pos (keywordEach kws X.env)).any (·.1.isNone)) = false := by rfl) :
    PE X (.Call (.Name x p) [] kws pos) (tCallK (spF K n fun ds => rwOk (fn ds)) (permL ix) E0 tNil tk) := by
  obtain ⟨f, fd, F, m, k1, b⟩ := D.ex
  refine ⟨fun pins s σ H Q I h => ?_⟩
  refine wpAny_Call_Name_kw (ld_glob I hg m ?_ hdb)
  refine PySem.W.callWith_KW0 (h₀ := X.base) I.ok.mod.kin k1 hall (thn (hkw.run pos pins s σ H _ I h) fun ws s2 ⟨zs, H2, I2, rz, q2⟩ => ⟨I2.kIn, ?_⟩) hpl
  rw [hks]
  exact run_fnk (us := []) (vs := []) ((F.imp fun _ _ _ _ q => spW_of q).mono hj) hr b passL I2 .nil rz q2
end
/-- an own class x with one field f -/
structure Ne (P : Program) (w : World) (K : PySem.W.Frag) (mg : Str → Option Value) (base : Heap) (x f : Str) (C : Addr) : Prop where
  m : mg x = some (.ref C)
  own : ∃ (B newId initId : String) (bmB : List Value), OwnE K C B newId initId bmB
  xc : ExcC K C
  init : ∃ (fI : Addr) (fd : FuncData), PySem.W.findIn K (.ref C) "__init__" = some (some (.ref fI)) ∧ PySem.W.typeIn K (.ref fI) = some (.type "function") ∧ FnOk P w K mg base CX0 1 fI fd ["self", f] (spE1 K f) ∧ Binds K fd ["self", f] []
  r1 : PySem.W.subIn K (.ref C) (.type "BaseException") = some true
  r2 : PySem.W.typeIn K (.ref C) = some (.type "type")
  tk : PySem.W.takerIn K C f = some none
  no : PySem.W.findIn K (.ref C) f = some none
  exm : PySem.W.exmOne K (.ref C) (.ref C) = some true
  kit : PySem.W.kitOne K (.ref C) (.type "LookupError") = some true
section
variable {X : Cx} {C : Addr} {x f : Str} {e : Expr} {te : TE} {p pos pos2 : Pos} {k : Nat} {W : WX}
/-- raise x(e) -/
theorem ps_raiseE (hc : X.calm = true) (tk : Takes X W) (N : Ne X.prog X.w X.K X.mg X.base x f C) (hr : Room k X.A) (hk : 2 ≤ k) (he : PE X e te) (hg : Gl X x := by rfl) (hdb : (x == ("__debug__" : Str)) = false := by decide)
    (hs : starEach [e] X.env = (false, eval e X.env) :: starEach [] X.env := by rfl) (hpl : (backTo pos (starEach [] X.env)).any (·.1) = false := by rfl) :
    PS X (.Raise (some (.Call (.Name x p) [e] [] pos)) none pos2) (fun _ σ H => tMkO C (spE1 X.K f) [] (tCons te tNil) σ H fun cls d H' => W cls d σ H') := by
  obtain ⟨_, _, _, _, T⟩ := N.own
  obtain ⟨fI, fd, h1, h2, h3, h4⟩ := N.init
  exact ps_raise hc tk (pmk_own2 T (raises_own N.r1 N.r2) h1 h2 h3 (hr.mono hk) h4 hg N.m (pa_cons he pa_nil hs) hdb hs hpl)
theorem Ne.rs {P : Program} {w : World} {K : PySem.W.Frag} {mg : Str → Option Value} {base : Heap} (N : Ne P w K mg base x f C) : RsF K C f := ⟨N.own, N.tk⟩
end
end DL

namespace DL
open PySem PySem.Spec PyProof PyProof.Rows L2
open RZ
section
variable {K : PySem.W.Frag}
/-! ### further readings with their functions -/
/-- int(..) of a number, of a truth -/
def sI1 (a : SX K) : SX K := ⟨tCB (fun xs H Q => (∃ i, xs = [V.int i] ∧ Q (V.int i) H) ∨ ∃ k, xs = [V.bl k] ∧ Q (V.int (if k then 1 else 0)) H) (tCons a.te tNil),
  fun Γ => (a.ev Γ).bind fun x => match x with | .int i => some (.int i) | .bool b => some (.int (if b then 1 else 0)) | _ => none, fun {Γ d} h => by
  obtain ⟨x, h1, h⟩ := bnd h
  cases x with
  | int i => cases h; exact ed_int1I (a.ok h1)
  | bool b => cases h; exact ed_int1B (a.ok h1)
  | _ => cases h⟩
/-- len(text) -/
def sLenS (a : SX K) : SX K := ⟨tCB (fun xs H Q => ∃ x : Str, xs = [V.str x] ∧ x.length ≤ sizeLine ∧ Q (V.int x.length) H) (tCons a.te tNil),
  fun Γ => (a.ev Γ).bind fun x => match x with | .str s => if s.length ≤ 100000 then some (.int s.length) else none | _ => none, fun {Γ d} h => by
  obtain ⟨x, h1, h⟩ := bnd h
  cases x with
  | str s =>
    have h : (if s.length ≤ 100000 then some (PyData.int s.length) else none) = some d := h
    by_cases c : s.length ≤ 100000
    · rw [if_pos c] at h
      cases h
      exact ed_lenS (a.ok h1) c
    · rw [if_neg c] at h; cases h
  | _ => cases h⟩
/-- text[i] -/
def oIxS : F2 K (rIx K) := ⟨fun x y => match x, y with | .str s, .int i => if s.length ≤ 100000 then (atI s.cps.toList i).bind fun c => some (.str ⟨#[c]⟩) else none | _, _ => none, fun {x y z} e => by
  cases x <;> cases y <;> first | (cases e; done) | skip
  rename_i s i
  have e : (if s.length ≤ 100000 then (atI s.cps.toList i).bind fun c => some (PyData.str ⟨#[c]⟩) else none) = some z := e
  by_cases c : s.length ≤ 100000
  · rw [if_pos c] at e
    obtain ⟨k, h1, h2⟩ := bnd e
    cases h2
    exact rd_ixS c h1
  · rw [if_neg c] at e; cases e⟩
/-- sorted(texts), fewer than 64 -/
def fSortS (a : SQ K) : SF K := ⟨tCB (rSortedS K) (tCons a.te tNil), fun Γ => (a.ev Γ).bind fun x => if x.1 = true then (strL x.2).bind fun ss => if ss.length < 64 then some ((sortS ss).map PyData.str) else none else none, fun {Γ d} h => by
  obtain ⟨⟨b, ds⟩, h1, h⟩ := bnd h
  cases b with
  | false => cases h
  | true =>
    have h : ((strL ds).bind fun ss => if ss.length < 64 then some ((sortS ss).map PyData.str) else none) = some d := h
    obtain ⟨ss, h2, hy⟩ := bnd h
    clear h
    have e := strL_map h2
    subst e
    by_cases c : ss.length < 64
    · rw [if_pos c] at hy
      cases hy
      exact ef_sortS (a.ok h1).r c
    · rw [if_neg c] at hy; cases hy⟩
/-- isinstance(.., T), T built in -/
def sIsi (T : String) (a : SX K) : SX K := ⟨tCB (rIsi K) (tCons a.te (tCons (tC (.ty T)) tNil)), fun Γ => (a.ev Γ).bind fun x => (kitB (tyD x) T).bind fun b => some (.bool b), fun {Γ d} h => by
  obtain ⟨x, h1, h⟩ := bnd h
  obtain ⟨b, h2, h⟩ := bnd h
  cases h
  exact ed_isi (a.ok h1) h2⟩
/-- xs[::-1] of a list -/
def fRev (a : SQ K) : SF K := ⟨tRevL K a.te, fun Γ => (a.ev Γ).bind fun x => if x.1 = true then some x.2.reverse else none, fun {Γ d} h => by
  obtain ⟨⟨b, ds⟩, h1, h⟩ := bnd h
  cases b with
  | false => cases h
  | true => cases h; exact ef_revL (a.ok h1).r⟩
/-- an empty dict or another, told by text, with something else where it has none: d.get(k) -/
theorem look_none {kvs : List (PyData × PyData)} {x : Str} (h : lookD kvs x = none) : kvs.find? (fun p => match p.1 with | .str y => decide (y = x) | _ => false) = none := by
  unfold lookD at h
  exact Option.map_eq_none_iff.mp h
end
end DL

namespace DL
open PySem PySem.Spec PyProof PyProof.Rows L2
open Evl (Ex)
open RZ
/-! ### sorted(xs), xs a list of tuples that hold numbers and texts, at each place one of the two: exact, any number of them -/
abbrev RKey := List (Int ⊕ List Nat)
def keyV : V → Option (Int ⊕ List Nat)
  | .int i => some (.inl i)
  | .str s => some (.inr s.cps.toList)
  | _ => none
def keysV (shape : Nat → Bool) : Nat → List V → Option RKey
  | _, [] => some []
  | i, .int n :: r => if shape i = true then none else (keysV shape (i + 1) r).map (Sum.inl n :: ·)
  | i, .str x :: r => if shape i = true then (keysV shape (i + 1) r).map (Sum.inr x.cps.toList :: ·) else none
  | _, _ :: _ => none
def ltR (a b : RKey) : Bool := (listOrd itemOrd).blt a b
def rSortedR (K : PySem.W.Frag) : List V → Hp → VK → Prop := fun vs H Q => ∃ (a : Addr) (xs : List V) (shape : Nat → Bool) (k : V → RKey), vs = [V.ref a] ∧ SqL K H a xs ∧ (∀ x ∈ xs, ∃ t items, x = V.ref t ∧ Tp H t items ∧ items ≠ [] ∧ keysV shape 0 items = some (k x)) ∧
  ∀ (zs : List V) (l : Addr), zs.Perm xs → zs.Pairwise (fun x y => ltR (k y) (k x) = false) → H l = none → Q (.ref l) (upd H l (.lst zs))
theorem items_rel {shape : Nat → Bool} : ∀ {i : Nat} {items : List V} {us : List Value} {k : RKey}, Vals items us → keysV shape i items = some k → tupItems shape i us = some k
  | _, _, _, _, .nil, h => h
  | i, x :: r, u :: us, k, .cons r1 r2, h => by
    cases x with
    | int n =>
      obtain ⟨t, rfl⟩ := r1
      have h : (if shape i = true then none else (keysV shape (i + 1) r).map (Sum.inl n :: ·)) = some k := h
      by_cases c : shape i = true
      · rw [if_pos c] at h; cases h
      · rw [if_neg c] at h
        obtain ⟨l, h1, h2⟩ := Option.map_eq_some_iff.mp h
        show (if shape i = true then none else (tupItems shape (i + 1) us).map (Sum.inl n :: ·)) = some k
        rw [if_neg c, items_rel r2 h1]
        exact congrArg some h2
    | str s =>
      obtain ⟨t, rfl⟩ := r1
      have h : (if shape i = true then (keysV shape (i + 1) r).map (Sum.inr s.cps.toList :: ·) else none) = some k := h
      by_cases c : shape i = true
      · rw [if_pos c] at h
        obtain ⟨l, h1, h2⟩ := Option.map_eq_some_iff.mp h
        show (if shape i = true then (tupItems shape (i + 1) us).map (Sum.inr s.cps.toList :: ·) else none) = some k
        rw [if_pos c, items_rel r2 h1]
        exact congrArg some h2
      · rw [if_neg c] at h; cases h
    | _ => cases h
theorem first_kind {shape : Nat → Bool} {items : List V} {us : List Value} {k : RKey} (hv : Vals items us) (hn : items ≠ []) (hk : keysV shape 0 items = some k) :
    ∃ f, us[0]? = some f ∧ (shape 0 = false → ∃ k t, f = Value.int k t) ∧ (shape 0 = true → ∃ x t, f = Value.str x t) := by
  cases hv with
  | nil => exact absurd rfl hn
  | @cons x u r us r1 r2 =>
    refine ⟨u, rfl, ?_⟩
    cases x with
    | int n =>
      obtain ⟨t, rfl⟩ := r1
      refine ⟨fun _ => ⟨n, t, rfl⟩, fun c => ?_⟩
      have h : (if shape 0 = true then none else (keysV shape (0 + 1) r).map (Sum.inl n :: ·)) = some k := hk
      rw [if_pos c] at h
      cases h
    | str s =>
      obtain ⟨t, rfl⟩ := r1
      refine ⟨fun c => ?_, fun _ => ⟨s, t, rfl⟩⟩
      have h : (if shape 0 = true then (keysV shape (0 + 1) r).map (Sum.inr s.cps.toList :: ·) else none) = some k := hk
      rw [if_neg (by rw [c]; exact Bool.false_ne_true)] at h
      cases h
    | _ => cases hk
theorem cr_sortedR {X : Cx} (K : PySem.W.Frag) (hK : X.K = K := by rfl) : CallR X (.builtin "sorted") (rSortedR K) := by
  subst hK
  intro pins s σ H vs us Q I r hq
  obtain ⟨a, xs, shape, k, rfl, hs, allp, q⟩ := hq
  obtain ⟨raw, rel, isl, room⟩ := I.list hs
  obtain ⟨u, rfl, same⟩ := vals1 r
  have eu : u = Value.ref a := same
  subst eu
  obtain ⟨e1, e2⟩ := refs_back rel fun x m => by
    obtain ⟨t, _, e, _⟩ := allp x m
    exact ⟨t, e⟩
  have tk : ∀ v ∈ raw, ∃ t o us n, v = Value.ref t ∧ s.heap.get? t = some o ∧ o.cls = .type "tuple" ∧ o.data = .seq us n ∧ tupItems shape 0 us.toList = some (k (backV v)) ∧ ∃ f, us[0]? = some f ∧ (shape 0 = false → ∃ k t, f = Value.int k t) ∧ (shape 0 = true → ∃ x t, f = Value.str x t) := fun v hv => by
    obtain ⟨t, rfl⟩ := e2 v hv
    have mem : V.ref t ∈ xs := by rw [e1]; exact List.mem_map.mpr ⟨_, hv, rfl⟩
    obtain ⟨t', items, e, ht, hn, hk⟩ := allp _ mem
    cases e
    obtain ⟨_, ht, _⟩ := ht
    obtain ⟨_, _, its2, r2, o, ho, hc, n, hd⟩ := I.hok _ _ ht
    obtain ⟨f, f1, f2⟩ := first_kind r2 hn hk
    refine ⟨t, o, its2.toArray, n, rfl, ho, hc, hd, by rw [List.toList_toArray]; exact items_rel r2 hk, f, by simpa using f1, f2⟩
  obtain ⟨kinds, hfs⟩ := tups_of (h := s.heap) (sh := shape) (vs := raw) fun v hv => by
    obtain ⟨t, o, us, n, e, ho, hc, hd, _, f, f1, f2, f3⟩ := tk v hv
    exact ⟨f, t, o, us, n, e, ho, hc, hd, f1, f2, f3⟩
  have kC : ∀ v ∈ raw, PyProof.Rows.G.tupKeyC s.heap shape v = some (k (backV v)) := fun v hv => by
    obtain ⟨t, o, us, n, rfl, ho, hc, hd, hi, _⟩ := tk v hv
    obtain ⟨oc, od, dt, sl⟩ := o
    simp only at hc hd
    subst hc hd
    unfold PyProof.Rows.G.tupKeyC
    rw [if_pos (by simp [PyProof.Rows.G.isTupObj, ho])]
    unfold PyProof.Rows.tupKey
    simp only [ho]
    exact hi
  refine PyProof.Rows.G.sorted_tups (shape := shape) (fs := kinds) isl.isList hfs (fun v hv => ⟨_, kC v hv⟩) (by rw [← rel.length]; exact room) fun st' hp hso _ => ?_
  have h1 : (arrOf st').toList.Perm (raw.zip raw) := by
    have := Array.perm_iff_toList_perm.mp hp
    rw [pairsOf_toList] at this
    exact this
  have hperm : ((arrOf st').map (·.2)).toList.Perm raw := by
    have h2 := h1.map (·.2)
    have h3 : (raw.zip raw).map (·.2) = raw := by rw [List.map_snd_zip (by omega)]
    rw [h3] at h2
    simpa using h2
  have h3 : ∀ u ∈ ((arrOf st').map (·.2)).toList, ∃ a, u = Value.ref a := fun u hu => e2 u (hperm.mem_iff.mp hu)
  have hsz : (arrOf st').size = (pairsOf raw).size := hp.size_eq
  have hpw : (((arrOf st').map (·.2)).toList.map backV).Pairwise (fun x y => ltR (k y) (k x) = false) := by
    rw [List.pairwise_map, Array.toList_map, List.pairwise_map, List.pairwise_iff_getElem]
    intro i j hi hj hij
    have key : ∀ (m : Nat) (hm : m < (arrOf st').toList.length), KK (PyProof.Rows.G.tupKindC s.heap shape) (arrOf st') m = k (backV ((arrOf st').toList[m]).2) := fun m hm => by
      have hmem : (arrOf st').toList[m] ∈ raw.zip raw := h1.mem_iff.mp (List.getElem_mem hm)
      obtain ⟨e, hr⟩ := mem_zip_self hmem
      have hm' : m < (arrOf st').size := by simpa using hm
      have hget : (arrOf st')[m]? = some ((arrOf st').toList[m]) := by
        rw [Array.getElem?_eq_getElem hm']
        simp
      unfold KK
      rw [hget]
      show (PyProof.Rows.G.tupKeyC s.heap shape ((arrOf st').toList[m]).1).getD [] = _
      rw [kC _ hr, Option.getD_some, ← e]
    have := hso i j (by omega) (by rw [← hsz]; simpa using hj)
    rw [key i hi, key j hj] at this
    exact this
  obtain ⟨ep, he'⟩ := PyProof.Rows.sortedAll_at s.heap raw ((arrOf st').map (·.2))
  refine ⟨.ref (s.heap.objs.size + 1), upd H (s.heap.objs.size + 1) (.lst (((arrOf st').map (·.2)).toList.map backV)), I.laid (t' := s.toks) (fun _ _ => PyProof.Rows.sortedAll_old) (Nat.le_succ _) ⟨?_, ((arrOf st').map (·.2)).toList, ep, vals_back h3, by rw [Array.toArray_toList]; exact he'⟩, rfl, q _ _ ?_ hpw (I.hok.fresh (Nat.le_succ _))⟩
  · rw [List.length_map, hperm.length_eq, ← rel.length]
    exact room
  · rw [e1]
    exact hperm.map backV
end DL

namespace DL
open PySem PySem.Spec PyProof PyProof.Rows L2
open Evl (Ex)
open RZ
/-! ### rows in their order, as data -/
def keysD (shape : Nat → Bool) : Nat → List PyData → Option RKey
  | _, [] => some []
  | i, .int n :: r => if shape i = true then none else (keysD shape (i + 1) r).map (Sum.inl n :: ·)
  | i, .str x :: r => if shape i = true then (keysD shape (i + 1) r).map (Sum.inr x.cps.toList :: ·) else none
  | _, _ :: _ => none
def rowKey (shape : Nat → Bool) : PyData → Option RKey
  | .tuple (x :: xs) => keysD shape 0 (x :: xs)
  | _ => none
/-- where the texts stand in these rows -/
def shapeOf (ds : List PyData) (i : Nat) : Bool := ds.any fun d => match d with
  | .tuple xs => (match xs[i]? with | some (.str _) => true | _ => false)
  | _ => false
def leR (a b : RKey) : Prop := ltR b a = false
theorem leR_trans {a b c : RKey} (h1 : leR a b) (h2 : leR b c) : leR a c := by
  unfold leR at *
  cases h : ltR c a with
  | false => rfl
  | true =>
    rcases (listOrd itemOrd).negTrans c b a h with z | z
    · exact absurd (h2.symm.trans z) Bool.false_ne_true
    · exact absurd (h1.symm.trans z) Bool.false_ne_true
theorem leR_anti {a b : RKey} (h1 : leR a b) (h2 : leR b a) : a = b := (listOrd itemOrd).total a b h2 h1
theorem leR_lt {a b : RKey} (h : ltR a b = true) : leR a b := by
  unfold leR
  cases z : ltR b a with
  | false => rfl
  | true =>
    have := (listOrd itemOrd).trans a b a h z
    rw [(listOrd itemOrd).irrefl] at this
    cases this
section
variable {α : Type} (k : α → RKey)
def insK (x : α) : List α → List α
  | [] => [x]
  | y :: r => if ltR (k y) (k x) = true then y :: insK x r else x :: y :: r
def sortK : List α → List α
  | [] => []
  | x :: r => insK k x (sortK r)
end
section
variable {α : Type} {k : α → RKey}
theorem insK_perm (x : α) : ∀ l : List α, (insK k x l).Perm (x :: l)
  | [] => .refl _
  | y :: r => by
    unfold insK
    split
    · exact ((insK_perm x r).cons y).trans (.swap x y r)
    · exact .refl _
theorem sortK_perm : ∀ l : List α, (sortK k l).Perm l
  | [] => .refl _
  | x :: r => (insK_perm x (sortK k r)).trans ((sortK_perm r).cons x)
theorem insK_sorted (x : α) : ∀ {l : List α}, l.Pairwise (fun x y => leR (k x) (k y)) → (insK k x l).Pairwise (fun x y => leR (k x) (k y))
  | [], _ => by unfold insK; exact List.pairwise_singleton _ _
  | y :: r, h => by
    obtain ⟨h1, h2⟩ := List.pairwise_cons.mp h
    unfold insK
    by_cases c : ltR (k y) (k x) = true
    · rw [if_pos c]
      refine List.pairwise_cons.mpr ⟨fun z hz => ?_, insK_sorted x h2⟩
      rcases List.mem_cons.mp ((insK_perm x r).mem_iff.mp hz) with rfl | w
      · exact leR_lt c
      · exact h1 z w
    · rw [if_neg c]
      have c' : leR (k x) (k y) := by unfold leR; simpa using c
      refine List.pairwise_cons.mpr ⟨fun z hz => ?_, h⟩
      rcases List.mem_cons.mp hz with rfl | w
      · exact c'
      · exact leR_trans c' (h1 z w)
theorem sortK_sorted : ∀ l : List α, (sortK k l).Pairwise (fun x y => leR (k x) (k y))
  | [] => .nil
  | x :: r => insK_sorted x (sortK_sorted r)
theorem perm_unique : ∀ {l m : List α}, (∀ x ∈ l, ∀ y ∈ l, k x = k y → x = y) → l.Perm m → l.Pairwise (fun x y => leR (k x) (k y)) → m.Pairwise (fun x y => leR (k x) (k y)) → l = m
  | [], m, _, p, _, _ => List.Perm.nil_eq p
  | x :: r, [], _, p, _, _ => by
    have := p.length_eq
    simp at this
  | x :: r, y :: t, hi, p, h1, h2 => by
    have hx : x ∈ y :: t := p.mem_iff.mp List.mem_cons_self
    have hy : y ∈ x :: r := p.mem_iff.mpr List.mem_cons_self
    obtain ⟨a1, a2⟩ := List.pairwise_cons.mp h1
    obtain ⟨b1, b2⟩ := List.pairwise_cons.mp h2
    have e : x = y := by
      rcases List.mem_cons.mp hx with q | q
      · exact q
      · rcases List.mem_cons.mp hy with q2 | q2
        · exact q2.symm
        · exact hi x List.mem_cons_self y hy (leR_anti (a1 y q2) (b1 x q))
    subst e
    rw [perm_unique (fun u hu v hv => hi u (List.mem_cons_of_mem _ hu) v (List.mem_cons_of_mem _ hv)) (List.Perm.cons_inv p) a2 b2]
end
theorem keysD_inj {shape : Nat → Bool} : ∀ {i : Nat} {xs ys : List PyData} {k : RKey}, keysD shape i xs = some k → keysD shape i ys = some k → xs = ys
  | i, [], [], _, _, _ => rfl
  | i, [], y :: ys, k, h1, h2 => by
    cases h1
    cases y with
    | int n =>
      have h2 : (if shape i = true then none else (keysD shape (i + 1) ys).map (Sum.inl n :: ·)) = some [] := h2
      split at h2
      · cases h2
      · obtain ⟨l, _, z⟩ := Option.map_eq_some_iff.mp h2; cases z
    | str s =>
      have h2 : (if shape i = true then (keysD shape (i + 1) ys).map (Sum.inr s.cps.toList :: ·) else none) = some [] := h2
      split at h2
      · obtain ⟨l, _, z⟩ := Option.map_eq_some_iff.mp h2; cases z
      · cases h2
    | _ => cases h2
  | i, x :: xs, ys, k, h1, h2 => by
    cases x with
    | int n =>
      have h1 : (if shape i = true then none else (keysD shape (i + 1) xs).map (Sum.inl n :: ·)) = some k := h1
      split at h1
      · cases h1
      · rename_i c
        obtain ⟨l, h3, rfl⟩ := Option.map_eq_some_iff.mp h1
        cases ys with
        | nil => cases h2
        | cons y ys =>
          cases y with
          | int m =>
            have h2 : (if shape i = true then none else (keysD shape (i + 1) ys).map (Sum.inl m :: ·)) = some (Sum.inl n :: l) := h2
            rw [if_neg c] at h2
            obtain ⟨l', h4, z⟩ := Option.map_eq_some_iff.mp h2
            injection z with z1 z2
            injection z1 with z1
            subst z1 z2
            rw [keysD_inj h3 h4]
          | str s =>
            have h2 : (if shape i = true then (keysD shape (i + 1) ys).map (Sum.inr s.cps.toList :: ·) else none) = some (Sum.inl n :: l) := h2
            rw [if_neg c] at h2
            cases h2
          | _ => cases h2
    | str s =>
      have h1 : (if shape i = true then (keysD shape (i + 1) xs).map (Sum.inr s.cps.toList :: ·) else none) = some k := h1
      split at h1
      · rename_i c
        obtain ⟨l, h3, rfl⟩ := Option.map_eq_some_iff.mp h1
        cases ys with
        | nil => cases h2
        | cons y ys =>
          cases y with
          | str m =>
            have h2 : (if shape i = true then (keysD shape (i + 1) ys).map (Sum.inr m.cps.toList :: ·) else none) = some (Sum.inr s.cps.toList :: l) := h2
            rw [if_pos c] at h2
            obtain ⟨l', h4, z⟩ := Option.map_eq_some_iff.mp h2
            injection z with z1 z2
            injection z1 with z1
            have e : m = s := str_ext z1
            subst e z2
            rw [keysD_inj h3 h4]
          | int n =>
            have h2 : (if shape i = true then none else (keysD shape (i + 1) ys).map (Sum.inl n :: ·)) = some (Sum.inr s.cps.toList :: l) := h2
            rw [if_pos c] at h2
            cases h2
          | _ => cases h2
      · cases h1
    | _ => cases h1
theorem rowKey_inj {shape : Nat → Bool} {d e : PyData} {k : RKey} (h1 : rowKey shape d = some k) (h2 : rowKey shape e = some k) : d = e := by
  cases d with
  | tuple xs =>
    cases xs with
    | nil => cases h1
    | cons x xs =>
      cases e with
      | tuple ys =>
        cases ys with
        | nil => cases h2
        | cons y ys => rw [keysD_inj (h1 : keysD shape 0 (x :: xs) = some k) h2]
      | _ => cases h2
  | _ => cases h1
section
variable {K : PySem.W.Frag} {Γ : List G} {te : TE}
theorem keys_dt {Hd : Hp} {shape : Nat → Bool} : ∀ {i : Nat} {vs : List V} {ds : List PyData}, DtA K Hd vs ds → (keysD shape i ds).isSome = true → keysV shape i vs = keysD shape i ds
  | _, _, _, .nil, _ => rfl
  | i, v :: vs, d :: ds, .cons h1 h2, hs => by
    cases h1 with
    | int n =>
      have hs : (if shape i = true then none else (keysD shape (i + 1) ds).map (Sum.inl n :: ·)).isSome = true := hs
      show (if shape i = true then none else (keysV shape (i + 1) vs).map (Sum.inl n :: ·)) = (if shape i = true then none else (keysD shape (i + 1) ds).map (Sum.inl n :: ·))
      by_cases c : shape i = true
      · rw [if_pos c, if_pos c]
      · rw [if_neg c] at hs
        rw [if_neg c, if_neg c, keys_dt h2 (by rw [Option.isSome_map] at hs; exact hs)]
    | str s =>
      have hs : (if shape i = true then (keysD shape (i + 1) ds).map (Sum.inr s.cps.toList :: ·) else none).isSome = true := hs
      show (if shape i = true then (keysV shape (i + 1) vs).map (Sum.inr s.cps.toList :: ·) else none) = (if shape i = true then (keysD shape (i + 1) ds).map (Sum.inr s.cps.toList :: ·) else none)
      by_cases c : shape i = true
      · rw [if_pos c] at hs
        rw [if_pos c, if_pos c, keys_dt h2 (by rw [Option.isSome_map] at hs; exact hs)]
      · rw [if_neg c, if_neg c]
    | _ => cases hs
/-- the key of a tuple that stands at v -/
def vKey (Hd : Hp) (shape : Nat → Bool) : V → RKey
  | .ref t => (match Hd t with | some (.frz _ (.tup items)) => (keysV shape 0 items).getD [] | _ => [])
  | _ => []
theorem vKey_dt {Hd : Hp} {shape : Nat → Bool} {v : V} {d : PyData} (h : Dt K Hd v d) (hs : (rowKey shape d).isSome = true) : vKey Hd shape v = (rowKey shape d).getD [] ∧ ∃ t items, v = .ref t ∧ Tp Hd t items ∧ items ≠ [] ∧ keysV shape 0 items = some (vKey Hd shape v) := by
  cases h with
  | @tup t items ds h1 h2 =>
    cases ds with
    | nil => cases hs
    | cons d0 ds =>
      have hk := keys_dt (shape := shape) (i := 0) h2 hs
      obtain ⟨k, hk2⟩ := Option.isSome_iff_exists.mp (show (keysD shape 0 (d0 :: ds)).isSome = true from hs)
      have ev : vKey Hd shape (.ref t) = k := by
        show (match Hd t with | some (.frz _ (.tup items)) => (keysV shape 0 items).getD [] | _ => []) = k
        obtain ⟨_, h1, _⟩ := h1
        rw [h1]
        show (keysV shape 0 items).getD [] = k
        rw [hk, hk2]
        rfl
      refine ⟨?_, t, items, rfl, h1, ?_, ?_⟩
      · rw [ev]
        show k = (keysD shape 0 (d0 :: ds)).getD []
        rw [hk2]
        rfl
      · cases h2
        exact List.cons_ne_nil _ _
      · rw [ev, hk, hk2]
  | _ => cases hs
theorem pw_dt {Hd : Hp} {shape : Nat → Bool} : ∀ {vs : List V} {ds : List PyData}, DtA K Hd vs ds → (∀ d ∈ ds, (rowKey shape d).isSome = true) → vs.Pairwise (fun x y => ltR (vKey Hd shape y) (vKey Hd shape x) = false) → ds.Pairwise (fun x y => leR ((rowKey shape x).getD []) ((rowKey shape y).getD []))
  | _, _, .nil, _, _ => .nil
  | v :: vs, d :: ds, .cons h1 h2, hs, hp => by
    obtain ⟨p1, p2⟩ := List.pairwise_cons.mp hp
    have hs' : ∀ e ∈ ds, (rowKey shape e).isSome = true := fun e he => hs e (List.mem_cons_of_mem _ he)
    refine List.pairwise_cons.mpr ⟨fun e he => ?_, pw_dt h2 hs' p2⟩
    obtain ⟨i, hi⟩ := List.getElem?_of_mem he
    obtain ⟨x, hx, dx⟩ := h2.got hi
    have := p1 x (List.mem_of_getElem? hx)
    rw [(vKey_dt h1 (hs d List.mem_cons_self)).1, (vKey_dt dx (hs' e he)).1] at this
    exact this
def keyR (shape : Nat → Bool) (d : PyData) : RKey := (rowKey shape d).getD []
theorem ef_sortR {shape : Nat → Bool} {ds : List PyData} (h : EQ K te Γ true ds) (hs : ∀ d ∈ ds, (rowKey shape d).isSome = true) : EF K (tCB (rSortedR K) (tCons te tNil)) Γ (sortK (keyR shape) ds) := fun _ _ σ Hd H e Q q =>
  h _ _ σ Hd H e _ fun a vs Hd1 H1 x1 h1 _ d1 => by
    have allp : ∀ x ∈ vs, ∃ t items, x = V.ref t ∧ Tp H1 t items ∧ items ≠ [] ∧ keysV shape 0 items = some (vKey Hd1 shape x) := fun x hx => by
      obtain ⟨i, hi⟩ := List.getElem?_of_mem hx
      obtain ⟨d, hd, dx⟩ := d1.get hi
      obtain ⟨_, t, items, e1, e2, e3, e4⟩ := vKey_dt dx (hs d (List.mem_of_getElem? hd))
      exact ⟨t, items, e1, e2.mono x1.i, e3, e4⟩
    refine ⟨a, vs, shape, vKey Hd1 shape, rfl, SqL.of h1, allp, fun zs l hp hpw hl => ?_⟩
    obtain ⟨es, pe, de⟩ := dta_perm hp d1
    have hs' : ∀ d ∈ es, (rowKey shape d).isSome = true := fun d hd => hs d (pe.mem_iff.mp hd)
    have eq : es = sortK (keyR shape) ds := perm_unique (k := keyR shape) (fun x hx y hy hk => by
      obtain ⟨kx, h1⟩ := Option.isSome_iff_exists.mp (hs' x hx)
      obtain ⟨ky, h2⟩ := Option.isSome_iff_exists.mp (hs' y hy)
      unfold keyR at hk
      rw [h1, h2] at hk
      have hk : kx = ky := hk
      subst hk
      exact rowKey_inj h1 h2) (pe.trans (sortK_perm ds).symm) (pw_dt de hs' hpw) (sortK_sorted ds)
    subst eq
    exact q l _ Hd1 _ (x1.mut (Evl.fresh_back x1.h hl) (Evl.fresh_back x1.i hl)) (Evl.fresh_back x1.h hl) (Evl.fresh_back x1.i hl) upd_same de
/-- sorted(rows) of a list of tuples that hold numbers and texts, at each place one of the two -/
def fSortR (a : SQ K) : SF K := ⟨tCB (rSortedR K) (tCons a.te tNil), fun Γ => (a.ev Γ).bind fun x => if (x.1 && x.2.all fun d => (rowKey (shapeOf x.2) d).isSome) = true then some (sortK (keyR (shapeOf x.2)) x.2) else none, fun {Γ d} h => by
  obtain ⟨⟨b, ds⟩, h1, h⟩ := bnd h
  have h : (if (b && ds.all fun d => (rowKey (shapeOf ds) d).isSome) = true then some (sortK (keyR (shapeOf ds)) ds) else none) = some d := h
  by_cases c : (b && ds.all fun d => (rowKey (shapeOf ds) d).isSome) = true
  · rw [if_pos c] at h
    cases h
    obtain ⟨c1, c2⟩ := Bool.and_eq_true_iff.mp c
    subst c1
    exact ef_sortR (a.ok h1) (List.all_eq_true.mp c2)
  · rw [if_neg c] at h
    cases h⟩
end
end DL

namespace DL
open PySem PySem.Spec PyProof PyProof.Rows L2
open Evl (Ex)
open RZ
section
variable {K : PySem.W.Frag}
/-! ### while, with so many turns at the most -/
def whGo (t : List G → Option Bool) (b : List G → Option Out) : Nat → List G → Option Out
  | 0, _ => none
  | n + 1, Γ => (t Γ).bind fun c => if c = true then (b Γ).bind fun o => (match o with
    | .nx Θ => whGo t b n Θ
    | .rt v => some (.rt v)) else some (.nx Γ)
def pWhile (fuel : Nat) (t : ST K) (body : SS K) : SS K := ⟨tWhile t.tt body.ts, fun Γ => whGo t.ev body.ev fuel Γ, fun {Γ o} h => by
  intro Hd0 H0 σ Hd H e D q
  refine ⟨fun m σ' H' => ∃ Hd' Γ', Ex Hd Hd' ∧ En K Hd0 H0 Γ' σ' Hd' H' ∧ whGo t.ev body.ev m Γ' = some o, ⟨fuel, Hd, Γ, .refl _, e, h⟩, ?_⟩
  rintro m σ' H' ⟨Hd', Γ', xd, en, hw⟩
  cases m with
  | zero => cases hw
  | succ m =>
    obtain ⟨c, h1, hw⟩ := bnd hw
    refine t.ok h1 _ _ σ' Hd' H' en _ fun Hd1 H1 x1 => ?_
    cases c with
    | false =>
      cases hw
      exact iteF (q σ' Hd1 H1 (en.ext x1) (xd.trans x1.d))
    | true =>
      obtain ⟨o1, h2, hw⟩ := bnd hw
      refine iteT ⟨fun σ2 H2 => ∃ Hd2 Γ2, Ex Hd Hd2 ∧ En K Hd0 H0 Γ2 σ2 Hd2 H2 ∧ whGo t.ev body.ev m Γ2 = some o, fun σ2 H2 w => ⟨m, Nat.lt_succ_self m, w⟩, ?_⟩
      refine body.ok h2 _ _ σ' Hd1 H1 (en.ext x1) _ ?_
      cases o1 with
      | nx Θ => exact fun σ2 Hd2 H2 e2 x2 => ⟨Hd2, Θ, xd.trans (x1.d.trans x2), e2, hw⟩
      | rt v => cases hw; exact q⟩
/-- a loop by its invariant: so many turns are left at the most -/
theorem whGo_inv {t : List G → Option Bool} {b : List G → Option Out} (I : Nat → List G → Prop) (hs : ∀ m Γ, I m Γ → (t Γ = some false) ∨ (t Γ = some true ∧ ∃ Δ m', b Γ = some (.nx Δ) ∧ m' < m ∧ I m' Δ)) : ∀ (m : Nat) {Γ : List G} (n : Nat), I m Γ → m < n → ∃ Δ m', whGo t b n Γ = some (.nx Δ) ∧ I m' Δ ∧ t Δ = some false := by
  intro m
  induction m using Nat.strongRecOn with
  | _ m ih =>
    intro Γ n hI hn
    cases n with
    | zero => omega
    | succ n =>
      rcases hs m Γ hI with h | ⟨h, Δ, m', h2, h3, h4⟩
      · refine ⟨Γ, m, ?_, hI, h⟩
        show (t Γ).bind _ = _
        rw [h]
        rfl
      · obtain ⟨Θ, m2, g1, g2, g3⟩ := ih m' h3 n h4 (by omega)
        refine ⟨Θ, m2, ?_, g2, g3⟩
        show (t Γ).bind _ = _
        rw [h]
        show (b Γ).bind _ = _
        rw [h2]
        exact g1
/-! ### d.get(k), k a text -/
theorem isD_of {Hd H : Hp} {a : Addr} {u : HO} {kvs : List (PyData × PyData)} (hr : Rd H a u) (dd : DtD K Hd u kvs) : IsD H a := by
  rcases dd with ⟨ks, rfl, _⟩ | ⟨ks, rfl, _⟩
  · exact .inl ⟨ks, hr⟩
  · exact .inr ⟨ks, hr⟩
theorem dtd_get {Hd : Hp} {u : HO} {kvs : List (PyData × PyData)} {x : Str} {H : Hp} {a : Addr} (h : DtD K Hd u kvs) (hr : Rd H a u) (hs : (strKeys kvs && !kvs.isEmpty) = true) : ∃ o : Option V, DGet H a (.str x) o ∧ (match lookD kvs x with | some d => ∃ v, o = some v ∧ Dt K Hd v d | none => o = none) := by
  rcases h with ⟨ks, rfl, q⟩ | ⟨ks, rfl, q⟩
  · cases hl : lookD kvs x with
    | none => exact ⟨valV ks (.inr x : Key), .inl ⟨ks, Sum.inr x, hr, rfl, rfl⟩, DtK.noval q (look_none hl)⟩
    | some d =>
      obtain ⟨v, g1, g2⟩ := dtd_val (.inl ⟨ks, rfl, q⟩) hr hl
      exact ⟨some v, g1, v, rfl, g2⟩
  · exfalso
    cases q with
    | nil => simp at hs
    | cons _ _ => simp [strKeys] at hs
def sDGet1 (d : SDk K) (k : SX K) : SX K := ⟨tDGet1 d.te k.te, fun Γ => (d.ev Γ).bind fun kvs => (k.ev Γ).bind fun y => match y with | .str x => if (strKeys kvs && !kvs.isEmpty) = true then some ((lookD kvs x).getD .none) else none | _ => none, fun {Γ r} h => by
  obtain ⟨kvs, h1, hx⟩ := bnd h
  clear h
  obtain ⟨y, h2, h⟩ := bnd hx
  clear hx
  cases y with
  | str x =>
    have h : (if (strKeys kvs && !kvs.isEmpty) = true then some ((lookD kvs x).getD .none) else none) = some r := h
    by_cases c : (strKeys kvs && !kvs.isEmpty) = true
    · rw [if_pos c] at h
      cases h
      intro Hd0 H0 σ Hd H e Q q
      refine d.ok h1 _ _ σ Hd H e _ fun a u Hd1 H1 x1 hr dd => ⟨a, rfl, isD_of hr dd, k.ok h2 _ _ σ Hd1 H1 (e.ext x1) _ fun w Hd2 H2 x2 d2 => ?_⟩
      cases d2
      obtain ⟨o, g1, g2⟩ := dtd_get (x := x) (dd.mono x2.d) (Evl.ex_rd x2.h hr) c
      refine ⟨o, g1, ?_⟩
      cases hl : lookD kvs x with
      | none =>
        rw [hl] at g2
        have g2 : o = none := g2
        subst g2
        exact q _ Hd2 H2 (x1.trans x2) (by rw [hl]; exact .non)
      | some z =>
        rw [hl] at g2
        obtain ⟨v, rfl, g3⟩ := g2
        exact q v Hd2 H2 (x1.trans x2) (by rw [hl]; exact g3)
    · rw [if_neg c] at h
      cases h
  | _ => cases h⟩
/-! ### own dicts with texts for keys, maybe empty -/
/-- {} -/
def sDNew : SDf K := ⟨tDNewK, fun _ => some [], fun {Γ kvs} h => by
  cases h
  intro Hd0 H0 σ Hd H e Q q p hp
  exact q p [] Hd _ ((Ext.refl e.x.i).mut hp (Evl.fresh_back e.x.i hp)) hp (Evl.fresh_back e.x.i hp) upd_same .nil⟩
theorem own_val {Hd : Hp} {ks : List (Key × V)} {kvs : List (PyData × PyData)} (q : DtK K Hd ks kvs) (x : Str) : (match lookD kvs x with | some d => ∃ v, valV ks (.inr x : Key) = some v ∧ Dt K Hd v d | none => valV ks (.inr x : Key) = none) := by
  cases hl : lookD kvs x with
  | none => exact DtK.noval q (look_none hl)
  | some d =>
    unfold lookD at hl
    obtain ⟨p, hp, rfl⟩ := Option.map_eq_some_iff.mp hl
    have ek := find_key hp
    obtain ⟨k, d⟩ := p
    simp only at ek
    subst ek
    exact DtK.val q hp
/-- k in d -/
def sDInO (k : SX K) (i : Nat) : SX K := ⟨tDIn k.te (tVar i), fun Γ => match Γ[i]? with | some (.ownD false kvs) => ((k.ev Γ).bind fun y => match y with | .str x => some (.bool (lookD kvs x).isSome) | _ => none) | _ => none, fun {Γ r} h => by
  split at h
  · rename_i kvs hi
    obtain ⟨y, h1, h⟩ := bnd h
    cases y with
    | str x =>
      cases h
      intro Hd0 H0 σ Hd H e Q q
      refine k.ok h1 _ _ σ Hd H e _ fun w Hd1 H1 x1 d1 => ?_
      cases d1
      have e1 := e.ext x1
      obtain ⟨a, o, s1, n0, n1, g1, ks, rfl, dk⟩ := e1.g i _ hi
      have ov := own_val dk x
      refine ⟨_, s1, a, valV ks (.inr x : Key), rfl, DGet.k (k := Sum.inr x) g1, ?_⟩
      have eb : (valV ks (.inr x : Key)).isSome = (lookD kvs x).isSome := by
        cases hl : lookD kvs x with
        | none => rw [hl] at ov; rw [show valV ks (.inr x : Key) = none from ov]; rfl
        | some d => rw [hl] at ov; obtain ⟨v, e2, _⟩ := ov; rw [e2]; rfl
      rw [eb]
      exact q _ Hd1 H1 x1 (.bl _)
    | _ => cases h
  · cases h⟩
/-- d.get(k) -/
def sDGetO (i : Nat) (k : SX K) : SX K := ⟨tDGet1 (tVar i) k.te, fun Γ => match Γ[i]? with | some (.ownD false kvs) => ((k.ev Γ).bind fun y => match y with | .str x => some ((lookD kvs x).getD .none) | _ => none) | _ => none, fun {Γ r} h => by
  split at h
  · rename_i kvs hi
    obtain ⟨y, h1, h⟩ := bnd h
    cases y with
    | str x =>
      cases h
      intro Hd0 H0 σ Hd H e Q q
      obtain ⟨a, o, s1, n0, n1, g1, ks, rfl, dk⟩ := e.g i _ hi
      refine ⟨_, s1, a, rfl, .inl ⟨ks, .inl g1⟩, k.ok h1 _ _ σ Hd H e _ fun w Hd1 H1 x1 d1 => ?_⟩
      cases d1
      have g2 := x1.h _ _ g1
      have ov := own_val (dtk_mono x1.d dk) x
      refine ⟨valV ks (.inr x : Key), DGet.k (k := Sum.inr x) g2, ?_⟩
      cases hl : lookD kvs x with
      | none =>
        rw [hl] at ov
        rw [show valV ks (.inr x : Key) = none from ov]
        exact q _ Hd1 H1 x1 (by rw [hl]; exact .non)
      | some d =>
        rw [hl] at ov
        obtain ⟨v, e2, dv⟩ := ov
        rw [e2]
        exact q v Hd1 H1 x1 (by rw [hl]; exact dv)
    | _ => cases h
  · cases h⟩
end
end DL

namespace DL
open PySem PySem.Spec PyProof PyProof.Rows L2
open Evl (Ex)
open RZ
section
variable {K : PySem.W.Frag}
/-! ### (*row, x), f(*row) -/
def aStar (x : SQ K) (r : SA K) : SA K := ⟨StX.tStar K x.te r.ta, fun Γ => (x.ev Γ).bind fun d => (r.ev Γ).bind fun ds => some (d.2 ++ ds), fun {Γ es} h => by
  obtain ⟨⟨b, ds⟩, h1, hx⟩ := bnd h
  clear h
  obtain ⟨rs, h2, h⟩ := bnd hx
  cases h
  intro Hd0 H0 σ Hd H e Q q
  refine x.ok h1 _ _ σ Hd H e _ fun a vs Hd1 H1 x1 g1 _ d1 => ⟨a, vs, rfl, (sq_b g1).symm, r.ok h2 _ _ σ Hd1 H1 (e.ext x1) _ fun ws Hd2 H2 x2 d2 => ?_⟩
  exact q _ Hd2 H2 (x1.trans x2) ((d1.mono x2.d).append d2)⟩
/-! ### [e for .. in .. if .. for .. in .. if ..] -/
def lc2Go {vs vs1 : List Nat} (g : SG K vs) (t : ST K) (it1 : SI K) (g1 : SG K vs1) (t1 : ST K) (e : SX K) (Γ : List G) : List PyData → List PyData → Option (List PyData)
  | [], acc => some acc
  | d :: r, acc => (g.ev (wipeG Γ vs) d).bind fun Δ => (t.ev Δ).bind fun b => if b = true then if Δ.all noOwn = true then (it1.ev Δ).bind fun ds1 => (lcGo (lcItem g1 t1 e Δ) ds1).bind fun ys => if acc.length + ys.length ≤ 100000 then lc2Go g t it1 g1 t1 e Γ r (acc ++ ys) else none else none else lc2Go g t it1 g1 t1 e Γ r acc
theorem lcGo_cons {item : PyData → Option (Option PyData)} {d : PyData} {r zs : List PyData} (h : lcGo item (d :: r) = some zs) : ∃ o ys, item d = some o ∧ lcGo item r = some ys ∧ zs = (match o with | some y => y :: ys | none => ys) := by
  obtain ⟨o, h1, hx⟩ := bnd h
  clear h
  obtain ⟨ys, h2, h⟩ := bnd hx
  refine ⟨o, ys, h1, h2, ?_⟩
  cases o with
  | some y => cases h; rfl
  | none => cases h; rfl
def fLc2 (it : SI K) (vs vs1 : List Nat) (g : SG K vs) (t : ST K) (it1 : SI K) (g1 : SG K vs1) (t1 : ST K) (e : SX K) : SF K := ⟨tLc2 it.wi g.g t.tt it1.wi g1.g t1.tt e.te vs vs1, fun Γ => (it.ev Γ).bind fun ds => lc2Go g t it1 g1 t1 e Γ ds [], fun {Γ out} h => by
  obtain ⟨ds, h1, h2⟩ := bnd h
  intro Hd0 H0 σ Hd H en0 Q q
  refine it.ok h1 _ _ σ Hd H en0 _ fun J Hd1 H1 x1 ok D hD => ?_
  have nD : H D = none := Evl.fresh_back x1.h hD
  have nD1 : Hd1 D = none := Evl.fresh_back x1.i hD
  refine ⟨fun i m G => m = ds.length - i ∧ i ≤ ds.length ∧ ∃ Hd2 acc accD, Ext Hd1 H1 Hd2 G ∧ Hd2 D = none ∧ G D = some (.lst acc) ∧ DtA K Hd2 acc accD ∧ lc2Go g t it1 g1 t1 e Γ (ds.drop i) accD = some out,
    ⟨ds.length, rfl, Nat.zero_le _, Hd1, [], [], (Ext.refl x1.i).mut hD nD1, nD1, upd_same, .nil, by rw [List.drop_zero]; exact h2⟩, ?_⟩
  rintro i m G ⟨rfl, hle, Hd2, acc, accD, x2, n2, a2, t2, hgo⟩
  obtain ⟨st, go⟩ := ok Hd2 G x2.d x2.i
  by_cases hlt : i < ds.length
  · have hd : ds[i]? = some ds[i] := by simp [hlt]
    obtain ⟨gi, yl⟩ := go i _ hd
    rw [List.drop_eq_getElem_cons hlt] at hgo
    obtain ⟨Δ, hg, hx⟩ := bnd hgo
    clear hgo
    obtain ⟨b, ht, hgo⟩ := bnd hx
    clear hx
    refine .inr ⟨gi, fun G' => ∃ Hd2 acc accD, Ext Hd1 H1 Hd2 G' ∧ Hd2 D = none ∧ G' D = some (.lst acc) ∧ DtA K Hd2 acc accD ∧ lc2Go g t it1 g1 t1 e Γ (ds.drop (i + 1)) accD = some out, fun G' w => ⟨ds.length - (i + 1), by omega, rfl, hlt, w⟩, fun x H3 y3 => ?_⟩
    obtain ⟨Hd3, x3, d3⟩ := yl x H3 y3
    have x13 := x2.trans x3
    have n3 : Hd3 D = none := x3.f _ _ n2 a2
    have a3 := x3.h _ _ a2
    refine g.ok hg _ _ _ Hd3 H3 x ((en0.ext (x1.trans x13)).wipe vs) d3 _ fun σ2 e2 w2 => ⟨w2.trans (wipe_wipe fun _ z => z), ?_⟩
    refine t.ok ht _ _ σ2 Hd3 H3 e2 _ fun Hd4 H4 x4 => ?_
    have n4 : Hd4 D = none := x4.f _ _ n3 a3
    have a4 := x4.h _ _ a3
    have x14 := x13.trans x4
    have e4 := e2.ext x4
    cases b with
    | false =>
      refine iteF ⟨Hd4, acc, accD, x14, n4, a4, t2.mono (x3.d.trans x4.d), hgo⟩
    | true =>
      refine iteT ?_
      have hgo : (if Δ.all noOwn = true then (it1.ev Δ).bind fun ds1 => (lcGo (lcItem g1 t1 e Δ) ds1).bind fun ys => if accD.length + ys.length ≤ 100000 then lc2Go g t it1 g1 t1 e Γ (ds.drop (i + 1)) (accD ++ ys) else none else none) = some out := hgo
      have cn : Δ.all noOwn = true := by
        cases z : Δ.all noOwn with
        | true => rfl
        | false => rw [z, if_neg Bool.false_ne_true] at hgo; cases hgo
      rw [if_pos cn] at hgo
      have mo : ∀ {Hd' H' : Hp} {o : HO}, En K Hd0 H0 Δ σ2 Hd' H' → Hd' D = none → En K Hd0 H0 Δ σ2 Hd' (upd H' D o) := fun e' n' => e'.mutO (Evl.fresh_back en0.x.h nD) n' (fun i ds z => by
        have := List.all_eq_true.mp cn _ (List.mem_of_getElem? z)
        cases this) (List.all_eq_true.mpr fun y hy => by
        have := List.all_eq_true.mp cn y hy
        cases y <;> first | rfl | cases this)
      obtain ⟨ds1, k1, hx⟩ := bnd hgo
      clear hgo
      obtain ⟨ys, k2, hgo⟩ := bnd hx
      clear hx
      by_cases c : accD.length + ys.length ≤ 100000
      · rw [if_pos c] at hgo
        refine it1.ok k1 _ _ σ2 Hd4 H4 e4 _ fun J1 Hd5 H5 x5 ok1 => ?_
        have n5 : Hd5 D = none := x5.f _ _ n4 a4
        have a5 := x5.h _ _ a4
        refine ⟨fun j k G => k = ds1.length - j ∧ j ≤ ds1.length ∧ ∃ Hd6 acc6 acc6D zs, Ex Hd5 Hd6 ∧ Ext Hd1 H1 Hd6 G ∧ En K Hd0 H0 Δ σ2 Hd6 G ∧ Hd6 D = none ∧ G D = some (.lst acc6) ∧ DtA K Hd6 acc6 acc6D ∧ lcGo (lcItem g1 t1 e Δ) (ds1.drop j) = some zs ∧ acc6D ++ zs = accD ++ ys,
          ⟨ds1.length, rfl, Nat.zero_le _, Hd5, acc, accD, ys, .refl _, x14.trans x5, e4.ext x5, n5, a5, t2.mono (x3.d.trans (x4.d.trans x5.d)), by rw [List.drop_zero]; exact k2, rfl⟩, ?_⟩
        rintro j k G1 ⟨rfl, hle1, Hd6, acc6, acc6D, zs, x6, x16, e6, n6, a6, t6, hz, hcat⟩
        obtain ⟨st1, go1⟩ := ok1 Hd6 G1 x6 x16.i
        by_cases hlt1 : j < ds1.length
        · have hd1 : ds1[j]? = some ds1[j] := by simp [hlt1]
          obtain ⟨gi1, yl1⟩ := go1 j _ hd1
          rw [List.drop_eq_getElem_cons hlt1] at hz
          obtain ⟨o, ys1, hit, hz1, ez⟩ := lcGo_cons hz
          refine .inr ⟨gi1, fun G' => ∃ Hd6 acc6 acc6D zs, Ex Hd5 Hd6 ∧ Ext Hd1 H1 Hd6 G' ∧ En K Hd0 H0 Δ σ2 Hd6 G' ∧ Hd6 D = none ∧ G' D = some (.lst acc6) ∧ DtA K Hd6 acc6 acc6D ∧ lcGo (lcItem g1 t1 e Δ) (ds1.drop (j + 1)) = some zs ∧ acc6D ++ zs = accD ++ ys, fun G' w => ⟨ds1.length - (j + 1), by omega, rfl, hlt1, w⟩, fun x7 H7 y7 => ?_⟩
          obtain ⟨Hd7, x7', d7⟩ := yl1 x7 H7 y7
          have n7 : Hd7 D = none := x7'.f _ _ n6 a6
          have a7 := x7'.h _ _ a6
          obtain ⟨Θ, hg1, hx⟩ := bnd hit
          clear hit
          obtain ⟨b1, ht1, hit⟩ := bnd hx
          clear hx
          refine g1.ok hg1 _ _ _ Hd7 H7 x7 ((e6.ext x7').wipe vs1) d7 _ fun σ3 e3 w3 => ⟨w3.trans (wipe_wipe fun _ z => z), ?_⟩
          refine t1.ok ht1 _ _ σ3 Hd7 H7 e3 _ fun Hd8 H8 x8 => ?_
          have n8 : Hd8 D = none := x8.f _ _ n7 a7
          have a8 := x8.h _ _ a7
          have x18 := (x16.trans x7').trans x8
          cases b1 with
          | false =>
            cases hit
            exact iteF ⟨Hd8, acc6, acc6D, ys1, x6.trans (x7'.d.trans x8.d), x18, e6.ext (x7'.trans x8), n8, a8, t6.mono (x7'.d.trans x8.d), hz1, by rw [← hcat, ez]⟩
          | true =>
            obtain ⟨y, hy, hit⟩ := bnd (f := fun y => some (some y)) hit
            cases hit
            refine iteT (e.ok hy _ _ σ3 Hd8 H8 (e3.ext x8) _ fun v Hd9 H9 x9 d9 => ?_)
            have n9 : Hd9 D = none := x9.f _ _ n8 a8
            have a9 := x9.h _ _ a8
            have hlen : acc6.length < sizeLine := by
              have l1 := t6.length
              have l2 := congrArg List.length hcat
              rw [List.length_append, List.length_append, ez, List.length_cons] at l2
              have l3 : acc6.length < 100000 := by omega
              exact Nat.lt_of_lt_of_le l3 (by decide)
            exact ⟨acc6, a9, hlen, Hd9, _, acc6D ++ [y], ys1, x6.trans (x7'.d.trans (x8.d.trans x9.d)), (x18.trans x9).mut hD n9, mo (e6.ext (x7'.trans (x8.trans x9))) n9, n9, upd_same, (t6.mono (x7'.d.trans (x8.d.trans x9.d))).append (.cons d9 .nil), hz1, by rw [← hcat, ez, List.append_assoc]; rfl⟩
        · have ej : j = ds1.length := by omega
          subst ej
          rw [List.drop_length] at hz
          cases hz
          rw [List.append_nil] at hcat
          subst hcat
          exact .inl ⟨st1, Hd6, acc6, _, x16, n6, a6, t6, hgo⟩
      · rw [if_neg c] at hgo; cases hgo
  · have ei : i = ds.length := by omega
    subst ei
    rw [List.drop_length] at hgo
    cases hgo
    exact .inl ⟨st, q D acc Hd2 G (x1.trans x2) nD n2 a2 t2⟩⟩
end
end DL

namespace DL
open PySem PySem.Spec PyProof PyProof.Rows L2
open Evl (Ex)
open RZ
/-! ### min(texts) of a list -/
def minStr (s : Str) (r : List Str) : Str := r.foldl (fun a y => if PySem.W.dataLt (.str y) (.str a) then y else a) s
theorem minD_strs : ∀ (s : Str) (r : List Str), PySem.W.minD (.str s) (r.map PyData.str) = .str (minStr s r)
  | s, [] => rfl
  | s, y :: r => by
    show PySem.W.minD (if PySem.W.dataLt (.str y) (.str s) then .str y else .str s) (r.map PyData.str) = _
    have e : (if PySem.W.dataLt (.str y) (.str s) then PyData.str y else .str s) = .str (if PySem.W.dataLt (.str y) (.str s) then y else s) := by split <;> rfl
    rw [e, minD_strs _ r]
    rfl
theorem reads_strs {h : Heap} : ∀ {ss : List Str} {us : List Value}, Vals (ss.map V.str) us → ReadsAll h us (ss.map PyData.str) []
  | [], _, .nil => .nil
  | s :: ss, u :: us, .cons r1 r2 => by
    obtain ⟨t, rfl⟩ := r1
    exact ReadsAll.cons (.str s t) (reads_strs r2)
def rMinS (K : PySem.W.Frag) : List V → Hp → VK → Prop := fun xs H Q => ∃ (a : Addr) (s : Str) (r : List Str), xs = [V.ref a] ∧ SqL K H a ((s :: r).map V.str) ∧ Q (.str (minStr s r)) H
theorem cr_minS {X : Cx} (K : PySem.W.Frag) (hu : X.A.units + 1 < cLine) (hc : X.calm = true := by rfl) (hK : X.K = K := by rfl) : CallR X (.builtin "min") (rMinS K) := by
  subst hK
  intro pins σs σ H vs us Q I r h
  obtain ⟨a, s, ss, rfl, hs, q⟩ := h
  obtain ⟨its, rv, hl, _⟩ := I.list hs
  rw [Vals.ref1 r]
  have dep : ∀ l : List Str, PyData.depthAll (l.map PyData.str) = 0 := fun l => by
    induction l with
    | nil => rfl
    | cons x l ih => simp [PyData.depthAll, PyData.depth, ih]
  refine PySem.W.min_list_data (x := .str s) (xs := ss.map PyData.str) (as := []) (I.ok.hd hc) hl.isList ?_ ?_ ?_ fun i v h' tk bs hv hr hk => ?_
  · rw [List.toList_toArray]
    exact reads_strs rv
  · refine ⟨fun x hx y hy => ?_, fun x hx => ?_⟩
    · obtain ⟨x', _, rfl⟩ := List.mem_map.mp (show x ∈ (s :: ss).map PyData.str from hx)
      obtain ⟨y', _, rfl⟩ := List.mem_map.mp (show y ∈ (s :: ss).map PyData.str from hy)
      rfl
    · obtain ⟨x', _, rfl⟩ := List.mem_map.mp (show x ∈ (s :: ss).map PyData.str from hx)
      exact fun z => nomatch z
  · have := dep (s :: ss)
    rw [List.map_cons] at this
    rw [this]
    exact hu
  · rw [minD_strs] at hr
    cases hr with
    | str _ t => exact ⟨.str _, H, I.kept hk, ⟨t, rfl⟩, q⟩
section
variable {K : PySem.W.Frag}
def sMinS (a : SQ K) : SX K := ⟨tCB (rMinS K) (tCons a.te tNil), fun Γ => (a.ev Γ).bind fun x => if x.1 = true then (strL x.2).bind fun ss => (match ss with | s :: r => some (.str (minStr s r)) | [] => none) else none, fun {Γ d} h => by
  obtain ⟨⟨b, ds⟩, h1, h⟩ := bnd h
  cases b with
  | false => cases h
  | true =>
    have h : ((strL ds).bind fun ss => (match ss with | s :: r => some (PyData.str (minStr s r)) | [] => none)) = some d := h
    obtain ⟨ss, h2, hy⟩ := bnd h
    clear h
    have e := strL_map h2
    subst e
    cases ss with
    | nil => cases hy
    | cons s r =>
      cases hy
      intro Hd0 H0 σ Hd H e Q q
      refine a.ok h1 _ _ σ Hd H e _ fun a vs Hd1 H1 x1 g1 _ d1 => ?_
      have ev := d1.ofStrs
      subst ev
      exact ⟨a, s, r, rfl, SqL.of g1, q _ Hd1 H1 x1 (.str _)⟩⟩
end
end DL

namespace DL
open PySem PySem.Spec PyProof PyProof.Rows L2
open Evl (Ex)
open RZ
section
variable {K : PySem.W.Frag}
/-- {k: v}, k a text -/
def sDisp1 (k v : SX K) : SDf K := ⟨tDisp [(k.te, v.te)], fun Γ => (k.ev Γ).bind fun y => (v.ev Γ).bind fun d => match y with | .str x => some [(.str x, d)] | _ => none, fun {Γ kvs} h => by
  obtain ⟨y, h1, hx⟩ := bnd h
  clear h
  obtain ⟨d, h2, h⟩ := bnd hx
  clear hx
  cases y with
  | str x =>
    cases h
    intro Hd0 H0 σ Hd H e Q q p hp
    have np : Hd p = none := Evl.fresh_back e.x.i hp
    have xp : Ext Hd H Hd (upd H p (.dK [])) := (Ext.refl e.x.i).mut hp np
    refine k.ok h1 _ _ σ Hd _ (e.ext xp) _ fun w Hd1 H1 x1 d1 => v.ok h2 _ _ σ Hd1 H1 (e.ext (xp.trans x1)) _ fun u Hd2 H2 x2 d2 => ?_
    cases d1
    have n1 : Hd1 p = none := x1.f _ _ np upd_same
    have a1 := x1.h _ _ (upd_same : (upd H p (.dK [])) p = some (.dK []))
    have n2 : Hd2 p = none := x2.f _ _ n1 a1
    have a2 := x2.h _ _ a1
    exact ⟨a2, [(.inr x, u)], rfl, by show 1 ≤ 15; decide, q p [(.inr x, u)] Hd2 _ (((xp.trans x1).trans x2).mut hp n2) hp n2 upd_same (.cons d2 .nil)⟩
  | _ => cases h⟩
/-- a, b = {..}, [..]: an own dict, an own list -/
def pParDL (i j : Nat) (a : SDf K) (b : SF K) : SS K := ⟨tPar i j (tCons a.te (tCons b.te tNil)), fun Γ => (a.ev Γ).bind fun kvs => (b.ev Γ).bind fun ds => if i ≠ j then some (.nx ((Γ.set i (.ownD false kvs)).set j (.dat (.list ds)))) else none, fun {Γ o} h => by
  obtain ⟨kvs, h1, hx⟩ := bnd h
  clear h
  obtain ⟨ds, h2, h⟩ := bnd hx
  clear hx
  by_cases c : i ≠ j
  · rw [if_pos c] at h
    cases h
    intro Hd0 H0 σ Hd H e D q
    refine a.ok h1 _ _ σ Hd H e _ fun p ks Hd1 H1 x1 n1 n2 g1 d1 => b.x.ok (show b.x.ev Γ = some (.list ds) by show (b.ev Γ).bind _ = _; rw [h2]; rfl) _ _ σ Hd1 H1 (e.ext x1) _ fun w Hd2 H2 x2 d2 => ⟨.ref p, w, rfl, ?_⟩
    have e2 := (e.ext x1).ext x2
    have e3 := e2.setOwnD (i := i) (b := false) (Evl.fresh_back e.x.h n1) (x2.f _ _ n2 g1) (x2.h _ _ g1) ⟨ks, rfl, dtk_mono x2.d d1⟩
    exact q _ Hd2 H2 (e3.set d2) (x1.d.trans x2.d)
  · rw [if_neg c] at h
    cases h⟩
/-! ### k not in d -/
def sDNinO (k : SX K) (i : Nat) : SX K := ⟨tDNotIn k.te (tVar i), fun Γ => match Γ[i]? with | some (.ownD false kvs) => ((k.ev Γ).bind fun y => match y with | .str x => some (.bool (!(lookD kvs x).isSome)) | _ => none) | _ => none, fun {Γ r} h => by
  split at h
  · rename_i kvs hi
    obtain ⟨y, h1, h⟩ := bnd h
    cases y with
    | str x =>
      cases h
      intro Hd0 H0 σ Hd H e Q q
      refine k.ok h1 _ _ σ Hd H e _ fun w Hd1 H1 x1 d1 => ?_
      cases d1
      have e1 := e.ext x1
      obtain ⟨a, o, s1, n0, n1, g1, ks, rfl, dk⟩ := e1.g i _ hi
      have ov := own_val dk x
      refine ⟨_, s1, a, valV ks (.inr x : Key), rfl, DGet.k (k := Sum.inr x) g1, ?_⟩
      have eb : (valV ks (.inr x : Key)).isSome = (lookD kvs x).isSome := by
        cases hl : lookD kvs x with
        | none => rw [hl] at ov; rw [show valV ks (.inr x : Key) = none from ov]; rfl
        | some d => rw [hl] at ov; obtain ⟨v, e2, _⟩ := ov; rw [e2]; rfl
      rw [eb]
      exact q _ Hd1 H1 x1 (.bl _)
    | _ => cases h
  · cases h⟩
def sDNin (k : SX K) (d : SDk K) : SX K := ⟨tDNotIn k.te d.te, fun Γ => (k.ev Γ).bind fun y => (d.ev Γ).bind fun kvs => match y with | .str x => if (strKeys kvs && !kvs.isEmpty) = true then some (.bool (!(lookD kvs x).isSome)) else none | _ => none, fun {Γ r} h => by
  obtain ⟨y, h1, hx⟩ := bnd h
  clear h
  obtain ⟨kvs, h2, h⟩ := bnd hx
  clear hx
  cases y with
  | str x =>
    have h : (if (strKeys kvs && !kvs.isEmpty) = true then some (PyData.bool (!(lookD kvs x).isSome)) else none) = some r := h
    by_cases c : (strKeys kvs && !kvs.isEmpty) = true
    · rw [if_pos c] at h
      cases h
      intro Hd0 H0 σ Hd H e Q q
      refine k.ok h1 _ _ σ Hd H e _ fun w Hd1 H1 x1 d1 => d.ok h2 _ _ σ Hd1 H1 (e.ext x1) _ fun a u Hd2 H2 x2 hr dd => ?_
      cases d1
      rcases dd with ⟨ks, rfl, g⟩ | ⟨ks, rfl, g⟩
      · refine ⟨a, valV ks (.inr x : Key), rfl, .inl ⟨ks, Sum.inr x, hr, rfl, rfl⟩, ?_⟩
        have eb : (valV ks (.inr x : Key)).isSome = (lookD kvs x).isSome := by
          unfold lookD
          cases hf : kvs.find? (fun p => match p.1 with | .str y => decide (y = x) | _ => false) with
          | none => rw [DtK.noval g hf]; rfl
          | some p =>
            obtain ⟨k', d'⟩ := p
            have ek := find_key hf
            simp only at ek
            subst ek
            obtain ⟨v, e1, _⟩ := DtK.val g hf
            rw [e1]
            rfl
        rw [eb]
        exact q _ Hd2 H2 (x1.trans x2) (.bl _)
      · cases g with
        | nil => simp at c
        | cons _ _ => simp [strKeys] at c
    · rw [if_neg c] at h
      cases h
  | _ => cases h⟩
/-- tuple(text) -/
def sTupS (a : SX K) : SX K := ⟨tCB rTupS (tCons a.te tNil), fun Γ => (a.ev Γ).bind fun x => match x with | .str s => if s.cps.size ≤ 100000 then some (.tuple (charsD s)) else none | _ => none, fun {Γ d} h => by
  obtain ⟨x, h1, h⟩ := bnd h
  cases x with
  | str s =>
    have h : (if s.cps.size ≤ 100000 then some (PyData.tuple (charsD s)) else none) = some d := h
    by_cases c : s.cps.size ≤ 100000
    · rw [if_pos c] at h
      cases h
      exact ed_tupS (a.ok h1) c
    · rw [if_neg c] at h; cases h
  | _ => cases h⟩
/-- a, b = {..}, [..] by way of a tuple: an own dict, a list -/
def pTupDL (i j : Nat) (a : SDf K) (b : SF K) : SS K := ⟨tAsg (tTup (tCons a.te (tCons b.te tNil))) (gTup K 2 (gCons (gName i) (gCons (gName j) gNil))), fun Γ => (a.ev Γ).bind fun kvs => (b.ev Γ).bind fun ds => some (.nx ((Γ.set i (.ownD false kvs)).set j (.dat (.list ds)))), fun {Γ o} h => by
  obtain ⟨kvs, h1, hx⟩ := bnd h
  clear h
  obtain ⟨ds, h2, h⟩ := bnd hx
  clear hx
  cases h
  intro Hd0 H0 σ Hd H e D q
  refine a.ok h1 _ _ σ Hd H e _ fun p ks Hd1 H1 x1 n1 n2 g1 d1 => b.x.ok (show b.x.ev Γ = some (.list ds) by show (b.ev Γ).bind _ = _; rw [h2]; rfl) _ _ σ Hd1 H1 (e.ext x1) _ fun w Hd2 H2 x2 d2 => ?_
  refine ⟨by show 2 ≤ sizeLine; decide, fun t ht => ⟨t, [.ref p, w], rfl, SqT.of upd_same, rfl, _, _, rfl, _, _, rfl, rfl, ?_⟩⟩
  have e2 := (e.ext x1).ext x2
  have n3 : Hd2 t = none := Evl.fresh_back x2.i ht
  have x3 : Ext Hd2 H2 Hd2 (upd H2 t (.tup [.ref p, w])) := (Ext.refl x2.i).mut ht n3
  have g2 := x3.h _ _ (x2.h _ _ g1)
  have e4 := (e2.ext x3).setOwnD (i := i) (b := false) (Evl.fresh_back e.x.h n1) (x2.f _ _ n2 g1) g2 ⟨ks, rfl, dtk_mono x2.d d1⟩
  exact q _ Hd2 _ (e4.set d2) (x1.d.trans x2.d)⟩
end
end DL

namespace DL
open PySem PySem.Spec PyProof PyProof.Rows L2
open Evl (Ex)
open RZ
/-! ### numbers: bits, chains, division, places in lists -/
section
variable {K : PySem.W.Frag}
def oAnd : F2 K (rI0 fun i j => .int (Builtin.bitAnd i j)) := iI0 _ (fun i j => .int (Builtin.bitAnd i j)) fun _ _ _ => .int _
/-- the truth of a number -/
def tTruI (a : SX K) : ST K := ⟨fun σ H Q => a.te σ H fun x H' => ∃ k, TruV K x H' k ∧ Q k H', fun Γ => (a.ev Γ).bind fun x => match x with | .int i => some (i != 0) | _ => none, fun {Γ b} h => by
  obtain ⟨x, h1, h⟩ := bnd h
  cases x with
  | int i =>
    cases h
    intro Hd0 H0 σ Hd H e Q q
    refine a.ok h1 _ _ σ Hd H e _ fun v Hd1 H1 x1 d1 => ?_
    cases d1
    exact ⟨_, rfl, q Hd1 H1 x1⟩
  | _ => cases h⟩
/-- a < b < c -/
def sChain {r r' : R2} (F : F2 K r) (G : F2 K r') (a b c : SX K) : SX K := ⟨tChain r r' a.te b.te c.te, fun Γ => (a.ev Γ).bind fun x => (b.ev Γ).bind fun y => (F.f x y).bind fun z => match z with
  | .bool true => (c.ev Γ).bind fun w => G.f y w
  | .bool false => some (.bool false)
  | _ => none, fun {Γ d} h => by
  obtain ⟨x, h1, hx⟩ := bnd h
  clear h
  obtain ⟨y, h2, hy⟩ := bnd hx
  clear hx
  obtain ⟨z, h3, h⟩ := bnd hy
  clear hy
  cases z with
  | bool k =>
    intro Hd0 H0 σ Hd H e Q q
    refine a.ok h1 _ _ σ Hd H e _ fun v Hd1 H1 x1 d1 => b.ok h2 _ _ σ Hd1 H1 (e.ext x1) _ fun u Hd2 H2 x2 d2 => ?_
    have e2 := (e.ext x1).ext x2
    refine F.ok h3 Hd2 H2 v u e2.x.i (d1.mono x2.d) d2 _ fun w Hd3 H3 x3 d3 => ?_
    cases d3
    refine ⟨k, rfl, ?_⟩
    cases k with
    | false =>
      cases h
      rw [if_neg Bool.false_ne_true]
      exact q _ Hd3 H3 ((x1.trans x2).trans x3) (.bl _)
    | true =>
      obtain ⟨w, h4, h5⟩ := bnd (f := fun w => G.f y w) h
      rw [if_pos rfl]
      refine c.ok h4 _ _ σ Hd3 H3 (e2.ext x3) _ fun v4 Hd4 H4 x4 d4 => ?_
      have e4 := (e2.ext x3).ext x4
      exact G.ok h5 Hd4 H4 u v4 e4.x.i ((d2.mono x3.d).mono x4.d) d4 _ fun v5 Hd5 H5 x5 d5 => q v5 Hd5 H5 ((((x1.trans x2).trans x3).trans x4).trans x5) d5
  | _ => cases h⟩
/-- divided by no more than some hundred digits -/
def wideB (j : Int) : Bool := decide (0 < j) && decide (j < 2 ^ 400)
theorem wideB_ok {j : Int} (h : wideB j = true) : 0 < j ∧ j.natAbs < 2 ^ 400 := by
  unfold wideB at h
  simp only [Bool.and_eq_true, decide_eq_true_eq] at h
  refine ⟨h.1, ?_⟩
  have h2 := h.2
  have : (j.natAbs : Int) = j := Int.natAbs_of_nonneg (Int.le_of_lt h.1)
  have e : ((2 ^ 400 : Nat) : Int) = (2 : Int) ^ 400 := by decide +kernel
  rw [← e] at h2
  omega
def oFdivW : F2 K (rI CDivW fun i j => .int (i / j)) := ⟨fun x y => match x, y with | .int i, .int j => if wideB j = true then some (.int (i / j)) else none | _, _ => none, fun {x y z} e => by
  cases x <;> cases y <;> first | cases e | skip
  rename_i i j
  have e : (if wideB j = true then some (PyData.int (i / j)) else none) = some z := e
  by_cases c : wideB j = true
  · rw [if_pos c] at e
    cases e
    exact rd_I (wide_div (wideB_ok c).1 (wideB_ok c).2 (by decide) (by decide)) fun _ => .int _
  · rw [if_neg c] at e
    cases e⟩
def rDivmodX : List V → Hp → VK → Prop := fun xs H Q => ∃ i j, xs = [V.int i, V.int j] ∧ CDivP i j ∧ ∀ (p : Addr) (o : Obj), H p = none → o.dict = none → Q (.ref p) (upd H p (.frz o (.tup [.int (i / j), .int (i % j)])))
theorem divmodX {X : Cx} : CallR X (.builtin "divmod") rDivmodX := by
  intro pins s σ H xs us Q I r h
  obtain ⟨i, j, rfl, ⟨h1, h2⟩, q⟩ := h
  obtain ⟨u1, u2, rfl, ⟨t1, rfl⟩, ⟨t2, rfl⟩⟩ := vals2 r
  refine PyProof.Rows.divmod_int (by omega) ?_ (.inl h2)
  rw [Int.fdiv_eq_ediv_of_nonneg _ (by omega), Int.fmod_eq_emod_of_nonneg _ (by omega)]
  exact laid_tup (its := [Value.int (i / j) s.toks, Value.int (i % j) (s.toks + 1)]) (xs := [V.int (i / j), V.int (i % j)]) (tk := s.toks + 1 + 1) I (fun _ _ e => e) (.cons ⟨_, rfl⟩ (.cons ⟨_, rfl⟩ .nil)) (by show 2 ≤ sizeLine; decide) q (Nat.le_refl _)
def sDivmod (a b : SX K) : SX K := ⟨tCB rDivmodX (tCons a.te (tCons b.te tNil)), fun Γ => (a.ev Γ).bind fun x => (b.ev Γ).bind fun y => match x, y with | .int i, .int j => if wideB j = true then some (.tuple [.int (i / j), .int (i % j)]) else none | _, _ => none, fun {Γ d} h => by
  obtain ⟨x, h1, hx⟩ := bnd h
  clear h
  obtain ⟨y, h2, h⟩ := bnd hx
  clear hx
  cases x <;> cases y <;> first | cases h | skip
  rename_i i j
  have h : (if wideB j = true then some (PyData.tuple [.int (i / j), .int (i % j)]) else none) = some d := h
  by_cases c : wideB j = true
  · rw [if_pos c] at h
    cases h
    intro Hd0 H0 σ Hd H e Q q
    refine (ea_cons (a.ok h1) (ea_cons (b.ok h2) ea_nil)) _ _ σ Hd H e _ fun vs Hd1 H1 x1 d1 => ?_
    cases d1 with
    | cons g1 d1 => cases d1 with
      | cons g2 d1 =>
        cases d1
        cases g1
        cases g2
        have hw := wide_div (i := i) (wideB_ok c).1 (wideB_ok c).2 (by decide) (by decide)
        refine ⟨i, j, rfl, ⟨hw.1, PyProof.noPylong_of_log2 hw.2⟩, fun p o hp ho => ?_⟩
        exact q (.ref p) (upd Hd1 p (.frz o (.tup [.int (i / j), .int (i % j)]))) _ (x1.new hp) (.tup (Tp.new ho) (.cons (.int _) (.cons (.int _) .nil)))
  · rw [if_neg c] at h
    cases h⟩
def oPow : F2 K (rI CPow fun i j => .int (i ^ j.toNat)) := ⟨fun x y => match x, y with | .int i, .int j => if 0 ≤ j ∧ j ≤ 1000000 ∧ i.natAbs < 2 ^ 64 then some (.int (i ^ j.toNat)) else none | _, _ => none, fun {x y z} e => by
  cases x <;> cases y <;> first | cases e | skip
  rename_i i j
  have e : (if 0 ≤ j ∧ j ≤ 1000000 ∧ i.natAbs < 2 ^ 64 then some (PyData.int (i ^ j.toNat)) else none) = some z := e
  by_cases c : 0 ≤ j ∧ j ≤ 1000000 ∧ i.natAbs < 2 ^ 64
  · rw [if_pos c] at e
    cases e
    exact rd_I c fun _ => .int _
  · rw [if_neg c] at e
    cases e⟩
/-- abs(n) -/
def sAbs (a : SX K) : SX K := ⟨tCB (fun xs H Q => ∃ i, xs = [V.int i] ∧ Q (V.int (if i < 0 then -i else i)) H) (tCons a.te tNil), fun Γ => (a.ev Γ).bind fun x => match x with | .int i => some (.int (if i < 0 then -i else i)) | _ => none, fun {Γ d} h => by
  obtain ⟨x, h1, h⟩ := bnd h
  cases x with
  | int i =>
    cases h
    intro Hd0 H0 σ Hd H e Q q
    refine (ea_cons (a.ok h1) ea_nil) _ _ σ Hd H e _ fun vs Hd1 H1 x1 d1 => ?_
    cases d1 with
    | cons g1 d1 =>
      cases d1
      cases g1
      exact ⟨i, rfl, q _ Hd1 H1 x1 (.int _)⟩
  | _ => cases h⟩
/-- the first place of a number in a list of numbers -/
def idxI (l : List Int) (y : Int) : Option Nat := l.findIdx? fun x => decide (x = y)
theorem idxI_ok {l : List Int} {y : Int} {j : Nat} (h : idxI l y = some j) : l[j]? = some y ∧ ∀ m < j, ∀ z, l[m]? = some z → z ≠ y := by
  unfold idxI at h
  obtain ⟨h1, h2, h3⟩ := List.findIdx?_eq_some_iff_getElem.mp h
  refine ⟨?_, fun m hm z hz => ?_⟩
  · rw [List.getElem?_eq_getElem h1]
    exact congrArg some (of_decide_eq_true h2)
  · have h4 := h3 m hm
    obtain ⟨h5, rfl⟩ := List.getElem?_eq_some_iff.mp hz
    simpa using h4
theorem eqV_int (x y : Int) : eqV (.int x) (.int y) = decide (x = y) := by
  unfold eqV
  by_cases c : x = y
  · subst c; simp
  · simp [c]
theorem flat_ints (l : List Int) : (l.map V.int).all flatV = true := List.all_eq_true.mpr fun v hv => by
  obtain ⟨i, _, rfl⟩ := List.mem_map.mp hv
  rfl
/-- xs.index(y), numbers -/
def sIdxI (a : SQ K) (y : SX K) : SX K := ⟨tBM K "list" (rIndex K) a.te (tCons y.te tNil), fun Γ => (a.ev Γ).bind fun x => if x.1 = true then (nums x.2).bind fun l => (y.ev Γ).bind fun z => (match z with | .int i => (idxI l i).bind fun j => some (.int (j : Int)) | _ => none) else none, fun {Γ d} h => by
  obtain ⟨⟨b, ds⟩, h1, h⟩ := bnd h
  cases b with
  | false => cases h
  | true =>
    have h : ((nums ds).bind fun l => (y.ev Γ).bind fun z => (match z with | .int i => (idxI l i).bind fun j => some (PyData.int (j : Int)) | _ => none)) = some d := h
    obtain ⟨l, h2, hx⟩ := bnd h
    clear h
    obtain ⟨z, h3, h⟩ := bnd hx
    clear hx
    cases z with
    | int i =>
      have h : (idxI l i).bind (fun (j : Nat) => some (PyData.int (j : Int))) = some d := h
      obtain ⟨j, h4, h⟩ := bnd h
      cases h
      have e := nums_map h2
      subst e
      obtain ⟨i1, i2⟩ := idxI_ok h4
      intro Hd0 H0 σ Hd H e Q q
      refine a.ok h1 _ _ σ Hd H e _ fun p vs Hd1 H1 x1 g1 _ d1 => ?_
      have ev := d1.ofInts
      subst ev
      refine ⟨tyV_list g1, ?_⟩
      refine (ea_cons (y.ok h3) ea_nil) _ _ σ Hd1 H1 (e.ext x1) _ fun ws Hd2 H2 x2 d2 => ?_
      cases d2 with
      | cons k1 d2 =>
        cases d2
        cases k1
        refine ⟨p, l.map V.int, .int i, j, .int i, rfl, rfl, SqL.of (x2.h _ _ g1), rfl, flat_ints l, by rw [List.getElem?_map, i1]; rfl, by rw [eqV_int, decide_eq_true rfl], fun m z' hm hz => ?_, q _ Hd2 H2 (x1.trans x2) (.int _)⟩
        rw [List.getElem?_map] at hz
        obtain ⟨w, hw, rfl⟩ := Option.map_eq_some_iff.mp hz
        rw [eqV_int, decide_eq_false (i2 m hm w hw)]
    | _ => cases h⟩
end
section
variable {K : PySem.W.Frag} {Hd0 H0 Hd H : Hp} {Γ : List G} {σ : L2.St}
theorem En.changeL (e : En K Hd0 H0 Γ σ Hd H) {i : Nat} {a : Addr} {ws ws' : List V} {ds es : List PyData} (hi : Γ[i]? = some (.own ds)) (s1 : σ[i]? = some (some (.ref a))) (n0 : H0 a = none) (n1 : Hd a = none) (h2 : H a = some (.lst ws)) (dn : DtA K Hd ws' es) : En K Hd0 H0 (Γ.set i (.own es)) σ Hd (upd H a (.lst ws')) := by
  refine ⟨e.x.mut n0 n1, by simp [e.l], fun j g hg => ?_, fun j k fs es' w hjk g1 g2 => ?_⟩
  · by_cases z : i = j
    · subst z
      have q := get_set_eq hg
      subst q
      exact ⟨a, _, s1, n0, n1, upd_same, dn⟩
    · rw [List.getElem?_set_ne z] at hg
      have q := e.g j g hg
      cases g with
      | any => trivial
      | val v => exact q
      | dat d => exact q
      | own es =>
        obtain ⟨b, vs, k1, k0, k2, k3, k4⟩ := q
        have nb : b ≠ a := fun zb => by
          subst zb
          exact e.o i j ds es _ z hi hg s1 k1
        exact ⟨b, vs, k1, k0, k2, by rw [upd_ne nb]; exact k3, k4⟩
      | lck es => exact q
      | ownD _ es =>
        obtain ⟨b, o, k1, k0, k2, k3, k4⟩ := q
        have nb : b ≠ a := fun zb => by
          subst zb
          rw [h2] at k3
          cases k3
          exact k4.nl rfl
        exact ⟨b, o, k1, k0, k2, by rw [upd_ne nb]; exact k3, k4⟩
  · have aux : ∀ (m : Nat) (l : List PyData), (Γ.set i (.own es))[m]? = some (G.own l) → ∃ l' : List PyData, Γ[m]? = some (G.own l') := fun m l hm => by
      by_cases z : i = m
      · subst z; exact ⟨_, hi⟩
      · rw [List.getElem?_set_ne z] at hm; exact ⟨_, hm⟩
    obtain ⟨l1, a1⟩ := aux j _ g1
    obtain ⟨l2, a2⟩ := aux k _ g2
    exact e.o j k l1 l2 w hjk a1 a2
end
section
variable {K : PySem.W.Frag}
theorem dta_set {H : Hp} {v : V} {d : PyData} (hv : Dt K H v d) : ∀ {vs : List V} {ds : List PyData} (j : Nat), DtA K H vs ds → DtA K H (vs.set j v) (ds.set j d)
  | _, _, _, .nil => .nil
  | _, _, 0, .cons _ t => .cons hv t
  | _, _, j + 1, .cons h t => .cons h (dta_set hv j t)
/-- xs[k] = v, the own list xs -/
def pLSet (i : Nat) (k v : SX K) : SS K := ⟨tAsg v.te (gSub (tVar i) k.te rSetL), fun Γ => match Γ[i]? with | some (.own ds) => ((v.ev Γ).bind fun d => (k.ev Γ).bind fun y => match y with | .int m => (ixN ds.length m).bind fun j => some (.nx (Γ.set i (.own (ds.set j d)))) | _ => none) | _ => none, fun {Γ o} h => by
  split at h
  · rename_i ds hi
    obtain ⟨d, h1, hx⟩ := bnd h
    clear h
    obtain ⟨y, h2, h⟩ := bnd hx
    clear hx
    cases y with
    | int m =>
      have h : (ixN ds.length m).bind (fun j => some (Out.nx (Γ.set i (.own (ds.set j d))))) = some o := h
      obtain ⟨j, h3, h⟩ := bnd h
      cases h
      intro Hd0 H0 σ Hd H e D q
      refine v.ok h1 _ _ σ Hd H e _ fun w Hd1 H1 x1 d1 => ?_
      have e1 := e.ext x1
      obtain ⟨a, ws, s1, _⟩ := e1.own hi
      refine ⟨_, s1, k.ok h2 _ _ σ Hd1 H1 e1 _ fun u Hd2 H2 x2 d2 => ?_⟩
      cases d2
      have e2 := e1.ext x2
      obtain ⟨b, ws2, s2, n0, n1, g1, dd⟩ := e2.own hi
      rw [s1] at s2
      cases s2
      refine ⟨a, ws2, m, j, rfl, rfl, g1, by rw [dd.length]; exact h3, ?_⟩
      exact q σ Hd2 _ (e2.changeL hi s1 n0 n1 g1 (dta_set (d1.mono x2.d) j dd)) (x1.d.trans x2.d)
    | _ => cases h
  · cases h⟩
/-- s, and the slot i is not looked at any more -/
def pFgt (i : Nat) (s : SS K) : SS K := ⟨s.ts, fun Γ => (s.ev Γ).bind fun o => match o with | .nx Δ => some (.nx (Δ.set i .any)) | .rt d => some (.rt d), fun {Γ o} h => by
  obtain ⟨o1, h1, h⟩ := bnd h
  cases o1 with
  | rt d => cases h; exact s.ok h1
  | nx Δ =>
    cases h
    intro Hd0 H0 σ Hd H e D q
    refine s.ok h1 _ _ σ Hd H e D ?_
    exact fun σ' Hd' H' en x => q σ' Hd' H' en.weak x⟩
end
theorem sumS {X : Cx} (K : PySem.W.Frag) (h : X.K = K := by rfl) (hc : X.calm = true := by rfl) : CallR X (.builtin "sum") (rSum K) := h ▸ cr_sum hc
theorem cdivw300 {g top : Int} (h1 : 1 ≤ top) (h2 : top < 2 ^ 300) : CDivW g top := by
  refine wide_div (b := 300) (by omega) ?_ (by decide) (by decide)
  have e : ((2 ^ 300 : Nat) : Int) = (2 : Int) ^ 300 := by decide +kernel
  rw [← e] at h2
  omega
/-! ### draws below great numbers -/
def spTakeW : Sp := fun vs H Q _ => ∃ (p : Addr) (top : Int) (c : Nat) (o : HO), vs = [.ref p, .int top] ∧ 1 ≤ top ∧ top < 2 ^ 300 ∧ H p = some o ∧ BoxO c o ∧ c < 2 ^ 60 ∧
  ∀ (r : Int) (o' : HO), 0 ≤ r → r < top → BoxO (c + 1) o' → Q (.int r) (upd H p o')
section
variable {K : PySem.W.Frag} {p : Addr} {Γ : List G} {tb : TE}
theorem eb_takeW {i : Nat} {top : Int} (hi : Γ[i]? = some (.val (.ref p))) (ht : ED K tb Γ (.int top)) (h1 : 1 ≤ top) (h2 : top < 2 ^ 300) : EB K p (tCall spTakeW [] E0 (tCons (tVar i) (tCons tb tNil))) Γ 1 (fun r => ∃ k : Int, r = .int k ∧ 0 ≤ k ∧ k < top) := fun _ _ c σ Hd H e hc Q q =>
  ⟨_, e.en.g i _ hi, ht _ _ σ Hd H e.en _ fun v Hd1 H1 x1 d1 => by
    cases d1
    have e1 := e.ext x1
    obtain ⟨o, ho, hb⟩ := e1.b
    refine ⟨p, top, c, o, rfl, h1, h2, ho, hb, by omega, fun r o' hr0 hr1 hb' => ?_⟩
    have x2 := ext_hid (o := o') x1.i e1.d
    exact q _ _ Hd1 _ ⟨r, rfl, hr0, hr1⟩ (x1.hidE.hid2 x2) (e1.draw x2 e1.d ⟨o', upd_same, hb'⟩) (.int r)⟩
end
end DL

namespace DL
open PySem PySem.Spec PyProof PyProof.Rows L2
open Evl (Ex)
open RZ
section
variable {K : PySem.W.Frag}
theorem ev_ifN {t : ST K} {s : SS K} {Γ : List G} (h : t.ev Γ = some false) : (pIf t s pNext).ev Γ = some (.nx Γ) := by
  show (t.ev Γ).bind _ = _
  rw [h]
  rfl
theorem ev_notVal {a : SX K} {Γ : List G} {b : Bool} (h : a.ev Γ = some (.bool b)) : (tNo (tVal a)).ev Γ = some (!b) := by
  show ((a.ev Γ).bind _).bind _ = _
  rw [h]
  rfl
theorem ev_cons {x : SX K} {r : SA K} {Γ : List G} {d : PyData} {ds : List PyData} (h1 : x.ev Γ = some d) (h2 : r.ev Γ = some ds) : (aCons x r).ev Γ = some (d :: ds) := by
  show (x.ev Γ).bind _ = _
  rw [h1, Option.bind_some]
  show (r.ev Γ).bind _ = _
  rw [h2]
  rfl
theorem ev_lst {a : SA K} {Γ : List G} {ds : List PyData} (h : a.ev Γ = some ds) (hl : ds.length ≤ 100000) : (fLst a).ev Γ = some ds := by
  show (a.ev Γ).bind _ = _
  rw [h, Option.bind_some, if_pos hl]
theorem ev_tup {a : SA K} {Γ : List G} {ds : List PyData} (h : a.ev Γ = some ds) (hl : ds.length ≤ 100000) : (sTup a).ev Γ = some (.tuple ds) := by
  show (a.ev Γ).bind _ = _
  rw [h, Option.bind_some, if_pos hl]
theorem ev_callK {E : XK} {n : Nat} {ix : List Nat} {fn : List PyData → Option PyData} {a : SA K} {Γ : List G} {ds : List PyData} {r : PyData} (h : a.ev Γ = some ds) (hl : (permL ix [] ds).length = n) (hf : fn (permL ix [] ds) = some r) : (sCallK (E := E) n ix fn a).ev Γ = some r := by
  show (a.ev Γ).bind _ = _
  rw [h, Option.bind_some, if_pos hl]
  exact hf
theorem ev_cat {a b : SQ K} {Γ : List G} {xs ys : List PyData} (h1 : a.ev Γ = some (true, xs)) (h2 : b.ev Γ = some (true, ys)) (hl : xs.length + ys.length ≤ 100000) : (fCat a b).ev Γ = some (xs ++ ys) := by
  show ((a.ev Γ).bind _) = _
  rw [h1, Option.bind_some]
  show ((b.ev Γ).bind _) = _
  rw [h2, Option.bind_some]
  show (if (true && true && decide (xs.length + ys.length ≤ 100000)) = true then some (xs ++ ys) else none) = _
  rw [decide_eq_true hl]
  rfl
theorem sameA_refl : ∀ {xs : List PyData}, (∀ x ∈ xs, sameD x x = true) → sameA xs xs = true
  | [], _ => rfl
  | x :: xs, h => by
    show (sameD x x && sameA xs xs) = true
    rw [h x List.mem_cons_self, sameA_refl fun y hy => h y (List.mem_cons_of_mem _ hy)]
    rfl
theorem fine_s {s : Str} (h : PyData.strOk s = true) : fine (.str s) = true := by
  unfold fine
  rw [fine_str h]
  rfl
structure Self (n : Nat) (d : PyData) : Prop where
  f : fine d = true
  dp : d.depth ≤ n
  s : sameD d d = true
theorem Self.list {n : Nat} {xs : List PyData} (hn : n ≤ 63) (hl : xs.length ≤ 100000) (h : ∀ x ∈ xs, Self n x) : Self (n + 1) (.list xs) :=
  ⟨fine_mk_list hl fun x hx => ⟨(h x hx).f, by have := (h x hx).dp; omega⟩, depth_list fun x hx => (h x hx).dp, sameA_refl fun x hx => (h x hx).s⟩
theorem Self.tup {n : Nat} {xs : List PyData} (hn : n ≤ 63) (hl : xs.length ≤ 100000) (h : ∀ x ∈ xs, Self n x) : Self (n + 1) (.tuple xs) :=
  ⟨fine_mk_tup hl fun x hx => ⟨(h x hx).f, by have := (h x hx).dp; omega⟩, depth_tup fun x hx => (h x hx).dp, sameA_refl fun x hx => (h x hx).s⟩
theorem Self.le {n m : Nat} {d : PyData} (h : Self n d) (hm : n ≤ m) : Self m d := ⟨h.f, Nat.le_trans h.dp hm, h.s⟩
theorem self_str {s : Str} (h : PyData.strOk s = true) : Self 0 (.str s) := ⟨fine_s h, by simp [PyData.depth], beq_self_eq_true s⟩
theorem self_int (i : Int) : Self 0 (.int i) := ⟨rfl, by simp [PyData.depth], beq_self_eq_true i⟩
theorem self_none : Self 0 .none := ⟨rfl, by simp [PyData.depth], rfl⟩
theorem Self.same {n : Nat} {d : PyData} (h : Self n d) (hn : n < 5) : fnSame 5 [d, d] = some (.bool true) := by
  show (if (decide (d.depth < 5) && fine d && fine d) = true then some (PyData.bool (sameD d d)) else none) = _
  have := h.dp
  rw [h.f, decide_eq_true (by omega), h.s]
  rfl
theorem xDrop_er {es : List (Addr × Str)} {n k : Nat} {y : PyData} {fn : List PyData → Option Rw} {t : SA K} {Γ : List G} {ds : List PyData} {r : SSX K es} (h1 : t.ev Γ = some ds) (h2 : ds.length = n) (h3 : fn ds = some (.er k y)) : (xSeq (xDropC n fn t) r).ev Γ = some (.er k y) := by
  show (((t.ev Γ).bind _).bind _) = _
  rw [h1]
  show (((if ds.length = n then (fn ds).bind _ else none) : Option OutX).bind _) = _
  rw [if_pos h2, h3]
  rfl
theorem xPure_nx {es : List (Addr × Str)} {s : SS K} {r : SSX K es} {Γ Δ : List G} (h : s.ev Γ = some (.nx Δ)) : (xSeq (xPure s) r).ev Γ = r.ev Δ := by
  show (((s.ev Γ).bind _).bind _) = _
  rw [h]
  rfl
theorem xPure_rt {es : List (Addr × Str)} {s : SS K} {Γ : List G} {d : PyData} (h : s.ev Γ = some (.rt d)) : (xPure (es := es) s).ev Γ = some (.rt d) := by
  show ((s.ev Γ).bind _) = _
  rw [h]
  rfl
theorem runX_rt {es : List (Addr × Str)} {N : List Str} {s : SSX K es} {ds : List PyData} {d : PyData} (h : s.ev (startG N ds) = some (.rt d)) : runX N s ds = some (.ok d) := by
  show (s.ev _).bind _ = _
  rw [h]
  rfl
theorem runX_er {es : List (Addr × Str)} {N : List Str} {s : SSX K es} {ds : List PyData} {k : Nat} {y : PyData} (h : s.ev (startG N ds) = some (.er k y)) : runX N s ds = some (.er k y) := by
  show (s.ev _).bind _ = _
  rw [h]
  rfl
theorem ev_if {t : ST K} {a b : SS K} {Γ : List G} {c : Bool} (h : t.ev Γ = some c) : (pIf t a b).ev Γ = if c = true then a.ev Γ else b.ev Γ := by
  show (t.ev Γ).bind _ = _
  rw [h]
  rfl
theorem ev_sIf {t : ST K} {a b : SX K} {Γ : List G} {c : Bool} (h : t.ev Γ = some c) : (sIf t a b).ev Γ = if c = true then a.ev Γ else b.ev Γ := by
  show (t.ev Γ).bind _ = _
  rw [h]
  rfl
theorem ev_orF {a b : ST K} {Γ : List G} {x : Bool} (h1 : a.ev Γ = some false) (h2 : b.ev Γ = some x) : (tOrr a b).ev Γ = some x := by
  show (a.ev Γ).bind _ = _
  rw [h1]
  exact h2
theorem self_bool (b : Bool) : Self 0 (.bool b) := ⟨rfl, by simp [PyData.depth], beq_self_eq_true b⟩
theorem xIfF {es : List (Addr × Str)} {t : ST K} {a b : SSX K es} {Γ : List G} (h : t.ev Γ = some false) : (xIf t a b).ev Γ = b.ev Γ := by
  show (t.ev Γ).bind _ = _
  rw [h]
  rfl
theorem xIfT {es : List (Addr × Str)} {t : ST K} {a b : SSX K es} {Γ : List G} (h : t.ev Γ = some true) : (xIf t a b).ev Γ = a.ev Γ := by
  show (t.ev Γ).bind _ = _
  rw [h]
  rfl
theorem xSeq_nx {es : List (Addr × Str)} {s r : SSX K es} {Γ Δ : List G} (h : s.ev Γ = some (.nx Δ)) : (xSeq s r).ev Γ = r.ev Δ := by
  show (s.ev Γ).bind _ = _
  rw [h]
  rfl
theorem xSeq_er {es : List (Addr × Str)} {s r : SSX K es} {Γ : List G} {k : Nat} {y : PyData} (h : s.ev Γ = some (.er k y)) : (xSeq s r).ev Γ = some (.er k y) := by
  show (s.ev Γ).bind _ = _
  rw [h]
  rfl
theorem xSet_ok {es : List (Addr × Str)} {i n : Nat} {fn : List PyData → Option Rw} {t : SA K} {Γ : List G} {ds : List PyData} {d : PyData} {r : SSX K es} (h1 : t.ev Γ = some ds) (h2 : ds.length = n) (h3 : fn ds = some (.ok d)) : (xSeq (xSetC i n fn t) r).ev Γ = r.ev (Γ.set i (.dat d)) := by
  show (((t.ev Γ).bind _).bind _) = _
  rw [h1]
  show (((if ds.length = n then (fn ds).bind _ else none) : Option OutX).bind _) = _
  rw [if_pos h2, h3]
  rfl
end
section
variable {K : PySem.W.Frag} {p : Addr} {Γ : List G} {n : Nat} {te : TE} {ta : TA} {g : TG} {R : PyData → Prop} {On : List G → Prop} {Or : PyData → Prop}
theorem sb_asg (h : EB K p te Γ n R) (hg : ∀ d, R d → ∃ vs Δ, GDB K p g Γ d vs Δ ∧ On Δ) : SB K p (tAsg te g) Γ n On Or := fun _ _ c σ Hd H e hc D q1 _ =>
  h _ _ c σ Hd H e hc _ fun v r Hd1 H1 hr x1 e1 d1 => by
    obtain ⟨vs, Δ, g1, g2⟩ := hg r hr
    exact g1 _ _ _ σ Hd1 H1 v e1 d1 _ fun σ' e2 _ => q1 Δ σ' Hd1 H1 g2 e2 x1.d
theorem eib_rng1X {S : List PyData → Prop} {M : Nat} (h : EAB K p ta Γ n S) (hn : ∀ xs, S xs → ∃ k : Int, xs = [.int k] ∧ 1 ≤ k ∧ k ≤ M) (hM : M ≤ 100000) : EIB K p (iRng1 ta) Γ n (fun rs => 1 ≤ rs.length ∧ rs.length ≤ M) := fun _ _ c σ Hd H e hc S' q =>
  h _ _ c σ Hd H e hc _ fun vs xs Hd1 H1 hx x1 e1 d1 => by
    obtain ⟨k, rfl, k0, k1⟩ := hn xs hx
    cases d1 with
    | cons d1 d2 =>
      cases d1
      cases d2
      refine ⟨k, rfl, by omega, by omega, q _ ((List.range k.toNat).map fun (j : Nat) => .int (j : Int)) Hd1 H1 ⟨by rw [List.length_map, List.length_range]; omega, by rw [List.length_map, List.length_range]; omega⟩ x1 e1 fun Hd' H' e1 e2 => ⟨by simp [Itr]; omega, fun i d hd => ?_⟩⟩
      · rw [List.getElem?_map] at hd
        by_cases hi : i < k.toNat
        · rw [List.getElem?_range hi] at hd
          cases hd
          refine ⟨hi, fun x H'' ⟨eH, ex⟩ => ?_⟩
          subst eH ex
          refine ⟨Hd', .refl e2, ?_⟩
          rw [Int.zero_add]
          exact .int _
        · rw [List.getElem?_eq_none (by simpa using hi)] at hd
          cases hd
end
end DL

namespace DL
open PySem PySem.Spec PyProof PyProof.Rows L2
open PySem.Sem (wp)
open PySem.W (KdxIt kdx_alive)
open Evl (Ex)
open RZ
/-! ### list(zip(a, b)), lists or tuples -/
/-- one of the two that are walked together -/
structure Sd (prog : Program) (w : World) (it l : Addr) (xs : Array Value) (St : Nat → Heap → Prop) (C : Heap → Prop) : Prop where
  keep : ∀ {k : Nat} {h g : Heap}, St k h → (∀ o, h.get? it = some o → g.get? it = some o) → St k g
  there : ∀ {k : Nat} {h : Heap}, St k h → it < h.objs.size
  hold : ∀ {h g : Heap}, C h → (∀ o, h.get? l = some o → g.get? l = some o) → C g
  item : ∀ {A : Around} {E : Value → Shared → Prop} {s : Shared} {k : Nat} {x : Value} {Q : Value → Shared → Prop}, St k s.heap → C s.heap → xs[k]? = some x →
    (∀ g, St (k + 1) g → Heap.SameBut it s.heap g → Q x { s with heap := g }) → wpAny (model prog w) A (Builtin.SmallTypes.nextOf (.ref it)) Q E s
  fin : ∀ {A : Around} {E : Value → Shared → Prop} {s : Shared} {k : Nat} {Q : Value → Shared → Prop}, A.handled = none → St k s.heap → C s.heap → xs[k]? = none →
    (∀ g e, Heap.ExtBut it s.heap g → (∃ o, g.get? e = some o ∧ o.cls = .type "StopIteration") → E (.ref e) { s with heap := g }) → wpAny (model prog w) A (Builtin.SmallTypes.nextOf (.ref it)) Q E s
theorem Sd.list {prog : Program} {w : World} {it l : Addr} {xs : Array Value} : Sd prog w it l xs (fun k h => h.IsListIter it l k) fun h => h.IsList l xs where
  keep := fun st k => Heap.IsListIter.at st k
  there := fun st => let ⟨_, e, _⟩ := st; Heap.lt_size e
  hold := fun c k => Heap.IsList.at c k
  item := fun st c hx q => wpAny_nextOf_list_item st c hx q
  fin := fun hh st c hx q => wpAny_nextOf_list_end hh st c hx q
theorem Sd.tup {prog : Program} {w : World} {it l : Addr} {xs : Array Value} : Sd prog w it l xs (fun k h => h.IsTupleIter it l k) fun h => h.IsTuple l xs where
  keep := fun st k => let ⟨o, e, r⟩ := st; ⟨o, k o e, r⟩
  there := fun st => let ⟨_, e, _⟩ := st; Heap.lt_size e
  hold := fun c k => Heap.IsTuple.at c k
  item := fun st c hx q => nextOf_tuple_item st c hx q
  fin := fun hh st c hx q => nextOf_tuple_end hh st c hx q

def Zst (z TI TO i1 i2 S : Addr) (S1 S2 : Nat → Heap → Prop) (C1 C2 : Heap → Prop) (k : Nat) (h : Heap) : Prop :=
  IsPair h TI (.ref i1) (.ref i2) ∧ S1 k h ∧ S2 k h ∧ C1 h ∧ C2 h ∧
    ((IsZip h z TI TO .none ∧ ∃ a b, IsPair h TO a b) ∨ ∃ T f oT, IsZipHeld h z TI TO T f ∧ h.get? T = some oT ∧ T ≠ z ∧ T ≠ i1 ∧ T ≠ i2 ∧ T ≠ S)
section
variable {prog : Program} {w : World} {z TI TO i1 i2 l1 l2 S : Addr} {xs ys : Array Value} {S1 S2 : Nat → Heap → Prop} {C1 C2 : Heap → Prop}
theorem Zst.keep {k : Nat} {h g : Heap} (p : Sd prog w i1 l1 xs S1 C1) (q : Sd prog w i2 l2 ys S2 C2) (st : Zst z TI TO i1 i2 S S1 S2 C1 C2 k h) (hS : S ≠ z ∧ S ≠ TI ∧ S ≠ TO ∧ S ≠ i1 ∧ S ≠ i2 ∧ S ≠ l1 ∧ S ≠ l2)
    (up : ∀ b o, b ≠ S → h.get? b = some o → g.get? b = some o) : Zst z TI TO i1 i2 S S1 S2 C1 C2 k g := by
  obtain ⟨e1, e2, e3, e4, e5, e6⟩ := st
  obtain ⟨n1, n2, n3, n4, n5, n6, n7⟩ := hS
  refine ⟨up _ _ n2.symm e1, p.keep e2 fun o => up _ o n4.symm, q.keep e3 fun o => up _ o n5.symm, p.hold e4 fun o => up _ o n6.symm, q.hold e5 fun o => up _ o n7.symm, ?_⟩
  rcases e6 with ⟨f1, a, b, f2⟩ | ⟨T, f, oT, f1, f2, f3, f4, f5, f6⟩
  · exact .inl ⟨up _ _ n1.symm f1, a, b, up _ _ n3.symm f2⟩
  · exact .inr ⟨T, f, oT, up _ _ n1.symm f1, up _ _ f6 f2, f3, f4, f5, f6⟩
section
variable {A : Around} {E : Value → Shared → Prop} {s : Shared} {k : Nat}
theorem zg_one {x y : Value} {Q : Value → Shared → Prop} (D : ZipApart z TI TO i1 i2 l1 l2) (p : Sd prog w i1 l1 xs S1 C1) (q : Sd prog w i2 l2 ys S2 C2) (st : Zst z TI TO i1 i2 S S1 S2 C1 C2 k s.heap) (hS : S < s.heap.objs.size)
    (hx : xs[k]? = some x) (hy : ys[k]? = some y)
    (hQ : ∀ g, Zst z TI TO i1 i2 S S1 S2 C1 C2 (k + 1) g → IsPair g s.heap.objs.size x y → g.objs.size = s.heap.objs.size + 1 → (∀ c o, c ≠ z → c ≠ TO → c ≠ i1 → c ≠ i2 → s.heap.get? c = some o → g.get? c = some o) → Q (.ref s.heap.objs.size) { s with heap := g }) :
    wpAny (model prog w) A (Builtin.«zip.__next__» ⟨[.ref z], []⟩) (fun fin s' => ∃ v, fin = .done (.ret v) ∧ Q v s') E s := by
  obtain ⟨tI, b1, b2, c1, c2, hz⟩ := st
  have i1l := p.there b1
  have i2l := q.there b2
  rcases hz with ⟨hz, a, b, tO⟩ | ⟨T, f, oT, hz, hT, T1, T2, T3, T4⟩
  · show wpAny _ _ (field (.ref z) 2 >>= _) _ _ _
    have F2 := hz
    refine wpAny_bind (wpAny_field F2 rfl (x := .bool false) rfl ?_)
    show wpAny _ _ (field (.ref z) 3 >>= _) _ _ _
    refine wpAny_bind (wpAny_field F2 rfl (x := .ref TI) rfl ?_)
    refine wpAny_bind (wpAny_seqItems tI rfl ?_)
    show wpAny _ _ (Builtin.SmallTypes.ownedTupleIsFree (.ref z) >>= _) _ _ _
    refine wpAny_bind ?_
    unfold Builtin.SmallTypes.ownedTupleIsFree
    refine wpAny_bind (wpAny_field F2 rfl (x := .none) rfl (wpAny_pure ?_))
    simp only [if_true]
    refine wpAny_bind (wpAny_rule ?_)
    refine wpAny_bind (wpAny_field F2 rfl (x := .ref TO) rfl ?_)
    refine wpAny_bind (wpAny_setField_rec F2 (by simp) fun g1 z1 u1 => ?_)
    replace z1 : IsZip g1 z TI TO .ellipsis := z1
    refine wpAny_bind ?_
    simp only [List.zipIdx_cons, List.zipIdx_nil, List.forIn_cons, List.forIn_nil]
    refine wpAny_bind (wpAny_bind (wpAny_onRaise ?_))
    show wpAny _ _ (Builtin.SmallTypes.nextOf (.ref i1) >>= _) _ _ _
    refine wpAny_bind (p.item (s := { s with heap := g1 }) (p.keep b1 fun o => u1.extBut _ _ D.i1z) (p.hold c1 fun o => u1.extBut _ _ D.l1z) hx fun g2 b1' u2 => wpAny_pure ?_)
    have tO2 : IsPair g2 TO a b := u2.extBut _ _ D.TOi1 (u1.extBut _ _ D.TOz tO)
    refine wpAny_bind (wpAny_seqItems tO2 rfl ?_)
    refine wpAny_bind (wpAny_updateSeq_pair tO2 fun g3 tO3 u3 => ?_)
    replace tO3 : IsPair g3 TO x b := tO3
    refine wpAny_bind (wpAny_letGo (wpAny_pure ?_))
    refine wpAny_bind (wpAny_bind (wpAny_onRaise ?_))
    show wpAny _ _ (Builtin.SmallTypes.nextOf (.ref i2) >>= _) _ _ _
    refine wpAny_bind (q.item (s := { s with heap := g3 }) (q.keep b2 fun o e => u3.extBut _ _ D.TOi2.symm (u2.extBut _ _ D.i12.symm (u1.extBut _ _ D.i2z e)))
      (q.hold c2 fun o e => u3.extBut _ _ D.l2TO (u2.extBut _ _ D.l2i1 (u1.extBut _ _ D.l2z e))) hy fun g4 b2' u4 => wpAny_pure ?_)
    have tO4 : IsPair g4 TO x b := u4.extBut _ _ D.TOi2 tO3
    refine wpAny_bind (wpAny_seqItems tO4 rfl ?_)
    refine wpAny_bind (wpAny_updateSeq_pair tO4 fun g5 tO5 u5 => ?_)
    replace tO5 : IsPair g5 TO x y := tO5
    refine wpAny_bind (wpAny_letGo (wpAny_pure (wpAny_pure ?_)))
    refine wpAny_bind (wpAny_seqItems tO5 rfl ?_)
    refine wpAny_bind (wpAny_newTuple ?_)
    have sz : g5.objs.size = s.heap.objs.size := by rw [u5.1, u4.1, u3.1, u2.1, u1.1]
    have z5 : IsZip g5 z TI TO .ellipsis := u5.extBut _ _ D.TOz.symm (u4.extBut _ _ D.i2z.symm (u3.extBut _ _ D.TOz.symm (u2.extBut _ _ D.i1z.symm z1)))
    have kp : ∀ c o, c ≠ z → c ≠ TO → c ≠ i1 → c ≠ i2 → s.heap.get? c = some o → g5.get? c = some o := fun c o n1 n2 n3 n4 e =>
      u5.extBut _ _ n2 (u4.extBut _ _ n4 (u3.extBut _ _ n2 (u2.extBut _ _ n3 (u1.extBut _ _ n1 e))))
    have b15 : S1 (k + 1) g5 := p.keep b1' fun o e => u5.extBut _ _ D.TOi1.symm (u4.extBut _ _ D.i12 (u3.extBut _ _ D.TOi1.symm e))
    have b25 : S2 (k + 1) g5 := q.keep b2' fun o e => u5.extBut _ _ D.TOi2.symm e
    have zlt : z < g5.objs.size := Heap.lt_size z5
    show wpAny _ _ (Builtin.SmallTypes.ownedTupleHandOut (.ref z) (.ref g5.objs.size) >>= _) _ _ _
    refine wpAny_bind ?_
    unfold Builtin.SmallTypes.ownedTupleHandOut
    have z6 : IsZip (g5.push { cls := .type "tuple", data := .seq #[x, y] }) z TI TO .ellipsis := Heap.get?_push_of_some _ z5
    refine wpAny_bind (wpAny_setField_rec z6 (by simp) fun g7 z7 u7 => ?_)
    replace z7 : IsZip g7 z TI TO (rawInt g5.objs.size) := z7
    refine wpAny_setField_rec z7 (by simp) fun g8 z8 u8 => ?_
    replace z8 : IsZip g8 z TI TO (rawInt g5.objs.size) := z8
    have up : ∀ c o, c ≠ z → g5.get? c = some o → g8.get? c = some o := fun c o n1 e => u8.extBut _ _ n1 (u7.extBut _ _ n1 (Heap.get?_push_of_some _ e))
    have t8 : IsPair g8 g5.objs.size x y := u8.extBut _ _ (Nat.ne_of_gt zlt) (u7.extBut _ _ (Nat.ne_of_gt zlt) (Heap.get?_push_size _ rfl))
    have sz8 : g8.objs.size = g5.objs.size + 1 := by rw [u8.1, u7.1, Heap.size_push]
    rw [sz] at z8 t8 sz8 zlt
    refine wpAny_pure ⟨_, rfl, ?_⟩
    show Q (.ref g5.objs.size) _
    rw [sz]
    refine hQ g8 ⟨?_, p.keep b15 fun o => up _ o D.i1z, q.keep b25 fun o => up _ o D.i2z, ?_, ?_, .inr ⟨s.heap.objs.size, false, _, z8, t8, Nat.ne_of_gt zlt, Nat.ne_of_gt i1l, Nat.ne_of_gt i2l, Nat.ne_of_gt hS⟩⟩ t8 sz8 fun c o n1 n2 n3 n4 e => up c o n1 (kp c o n1 n2 n3 n4 e)
    · exact up _ _ D.TIz (kp _ _ D.TIz D.TITO D.TIi1 D.TIi2 tI)
    · exact p.hold c1 fun o e => up _ _ D.l1z (kp _ _ D.l1z D.l1TO D.l1i1 D.l1i2 e)
    · exact q.hold c2 fun o e => up _ _ D.l2z (kp _ _ D.l2z D.l2TO D.l2i1 D.l2i2 e)
  · show wpAny _ _ (field (.ref z) 2 >>= _) _ _ _
    have F2 := hz
    refine wpAny_bind (wpAny_field F2 rfl (x := .bool false) rfl ?_)
    show wpAny _ _ (field (.ref z) 3 >>= _) _ _ _
    refine wpAny_bind (wpAny_field F2 rfl (x := .ref TI) rfl ?_)
    refine wpAny_bind (wpAny_seqItems tI rfl ?_)
    show wpAny _ _ (Builtin.SmallTypes.ownedTupleIsFree (.ref z) >>= _) _ _ _
    refine wpAny_bind (wpAny_tupleHeld_zip F2 hT fun g1 z1 u1 => ?_)
    simp only [Bool.false_eq_true, if_false]
    refine wpAny_bind ?_
    rw [← Array.forIn_toList]
    simp only [List.forIn_cons, List.forIn_nil]
    refine wpAny_bind (wpAny_bind (wpAny_holding ?_))
    show wpAny _ _ (Builtin.SmallTypes.nextOf (.ref i1) >>= _) _ _ _
    refine wpAny_bind (p.item (s := { s with heap := g1 }) (p.keep b1 fun o => u1.extBut _ _ D.i1z) (p.hold c1 fun o => u1.extBut _ _ D.l1z) hx fun g2 b1' u2 => wpAny_pure ?_)
    refine wpAny_pure ?_
    refine wpAny_bind (wpAny_bind (wpAny_holding ?_))
    show wpAny _ _ (Builtin.SmallTypes.nextOf (.ref i2) >>= _) _ _ _
    refine wpAny_bind (q.item (s := { s with heap := g2 }) (q.keep b2 fun o e => u2.extBut _ _ D.i12.symm (u1.extBut _ _ D.i2z e))
      (q.hold c2 fun o e => u2.extBut _ _ D.l2i1 (u1.extBut _ _ D.l2z e)) hy fun g3 b2' u3 => wpAny_pure ?_)
    refine wpAny_pure (wpAny_pure ?_)
    show wpAny _ _ (newTuple [x, y] >>= _) _ _ _
    refine wpAny_bind (wpAny_newTuple ?_)
    have sz : g3.objs.size = s.heap.objs.size := by rw [u3.1, u2.1, u1.1]
    have z3 : IsZipHeld g3 z TI TO T true := u3.extBut _ _ D.i2z.symm (u2.extBut _ _ D.i1z.symm z1)
    have kp : ∀ c o, c ≠ z → c ≠ i1 → c ≠ i2 → s.heap.get? c = some o → g3.get? c = some o := fun c o n1 n2 n3 e => u3.extBut _ _ n3 (u2.extBut _ _ n2 (u1.extBut _ _ n1 e))
    have b13 : S1 (k + 1) g3 := p.keep b1' fun o e => u3.extBut _ _ D.i12 e
    refine wpAny_pure ⟨_, rfl, ?_⟩
    show Q (.ref g3.objs.size) _
    have t4 : IsPair (g3.push { cls := .type "tuple", data := .seq #[x, y] }) g3.objs.size x y := Heap.get?_push_size _ rfl
    have s4 : (g3.push { cls := .type "tuple", data := .seq #[x, y] }).objs.size = g3.objs.size + 1 := Heap.size_push ..
    rw [sz] at t4 s4 ⊢
    have ps : ∀ c o, g3.get? c = some o → (g3.push { cls := .type "tuple", data := .seq #[x, y] }).get? c = some o := fun c o e => Heap.get?_push_of_some _ e
    refine hQ _ ⟨ps _ _ (kp _ _ D.TIz D.TIi1 D.TIi2 tI), p.keep b13 fun o => ps _ o, q.keep b2' fun o => ps _ o, p.hold c1 fun o e => ps _ _ (kp _ _ D.l1z D.l1i1 D.l1i2 e), q.hold c2 fun o e => ps _ _ (kp _ _ D.l2z D.l2i1 D.l2i2 e), .inr ⟨T, true, oT, ps _ _ z3, ps _ _ (kp _ _ T1 T2 T3 hT), T1, T2, T3, T4⟩⟩ t4 s4 fun c o n1 _ n3 n4 e => ps _ _ (kp c o n1 n3 n4 e)
theorem zg_end {Q : Fin → Shared → Prop} (hh : A.handled = none) (D : ZipApart z TI TO i1 i2 l1 l2) (p : Sd prog w i1 l1 xs S1 C1) (q : Sd prog w i2 l2 ys S2 C2) (st : Zst z TI TO i1 i2 S S1 S2 C1 C2 k s.heap)
    (hend : xs[k]? = none ∨ ys[k]? = none)
    (hE : ∀ g e, (∀ c o, c ≠ z → c ≠ TO → c ≠ i1 → c ≠ i2 → s.heap.get? c = some o → g.get? c = some o) → (∃ o, g.get? e = some o ∧ o.cls = .type "StopIteration") → E (.ref e) { s with heap := g }) :
    wpAny (model prog w) A (Builtin.«zip.__next__» ⟨[.ref z], []⟩) Q E s := by
  obtain ⟨tI, b1, b2, c1, c2, hz⟩ := st
  rcases hz with ⟨hz, a, b, tO⟩ | ⟨T, f, oT, hz, hT, T1, T2, T3, T4⟩
  · show wpAny _ _ (field (.ref z) 2 >>= _) _ _ _
    have F2 := hz
    refine wpAny_bind (wpAny_field F2 rfl (x := .bool false) rfl ?_)
    show wpAny _ _ (field (.ref z) 3 >>= _) _ _ _
    refine wpAny_bind (wpAny_field F2 rfl (x := .ref TI) rfl ?_)
    refine wpAny_bind (wpAny_seqItems tI rfl ?_)
    show wpAny _ _ (Builtin.SmallTypes.ownedTupleIsFree (.ref z) >>= _) _ _ _
    refine wpAny_bind ?_
    unfold Builtin.SmallTypes.ownedTupleIsFree
    refine wpAny_bind (wpAny_field F2 rfl (x := .none) rfl (wpAny_pure ?_))
    simp only [if_true]
    refine wpAny_bind (wpAny_rule ?_)
    refine wpAny_bind (wpAny_field F2 rfl (x := .ref TO) rfl ?_)
    refine wpAny_bind (wpAny_setField_rec F2 (by simp) fun g1 z1 u1 => ?_)
    replace z1 : IsZip g1 z TI TO .ellipsis := z1
    refine wpAny_bind ?_
    simp only [List.zipIdx_cons, List.zipIdx_nil, List.forIn_cons, List.forIn_nil]
    refine wpAny_bind (wpAny_bind (wpAny_onRaise ?_))
    show wpAny _ _ (Builtin.SmallTypes.nextOf (.ref i1) >>= _) _ _ _
    cases hx : xs[k]? with
    | none =>
      refine wpAny_bind (p.fin (s := { s with heap := g1 }) hh (p.keep b1 fun o => u1.extBut _ _ D.i1z) (p.hold c1 fun o => u1.extBut _ _ D.l1z) hx fun g2 e u2 he => ?_)
      obtain ⟨oe, e1, e2⟩ := he
      have z2 : IsZip g2 z TI TO .ellipsis := u2 _ _ D.i1z.symm z1
      have ne : e ≠ z := fun x => by subst x; rw [z2] at e1; cases e1; simp at e2
      refine wpAny_setField_rec z2 (by simp) fun g3 _ u3 => hE g3 e (fun c o n1 _ n3 _ x => u3.extBut _ _ n1 (u2 _ _ n3 (u1.extBut _ _ n1 x))) ⟨oe, u3.extBut _ _ ne e1, e2⟩
    | some x =>
      have hy : ys[k]? = none := by
        rcases hend with h | h
        · rw [hx] at h; cases h
        · exact h
      refine wpAny_bind (p.item (s := { s with heap := g1 }) (p.keep b1 fun o => u1.extBut _ _ D.i1z) (p.hold c1 fun o => u1.extBut _ _ D.l1z) hx fun g2 b1' u2 => wpAny_pure ?_)
      have tO2 : IsPair g2 TO a b := u2.extBut _ _ D.TOi1 (u1.extBut _ _ D.TOz tO)
      refine wpAny_bind (wpAny_seqItems tO2 rfl ?_)
      refine wpAny_bind (wpAny_updateSeq_pair tO2 fun g3 tO3 u3 => ?_)
      refine wpAny_bind (wpAny_letGo (wpAny_pure ?_))
      refine wpAny_bind (wpAny_bind (wpAny_onRaise ?_))
      show wpAny _ _ (Builtin.SmallTypes.nextOf (.ref i2) >>= _) _ _ _
      refine wpAny_bind (q.fin (s := { s with heap := g3 }) hh (q.keep b2 fun o e => u3.extBut _ _ D.TOi2.symm (u2.extBut _ _ D.i12.symm (u1.extBut _ _ D.i2z e)))
        (q.hold c2 fun o e => u3.extBut _ _ D.l2TO (u2.extBut _ _ D.l2i1 (u1.extBut _ _ D.l2z e))) hy fun g4 e u4 he => ?_)
      obtain ⟨oe, e1, e2⟩ := he
      have z4 : IsZip g4 z TI TO .ellipsis := u4 _ _ D.i2z.symm (u3.extBut _ _ D.TOz.symm (u2.extBut _ _ D.i1z.symm z1))
      have ne : e ≠ z := fun x => by subst x; rw [z4] at e1; cases e1; simp at e2
      refine wpAny_setField_rec z4 (by simp) fun g5 _ u5 => hE g5 e (fun c o n1 n2 n3 n4 x => u5.extBut _ _ n1 (u4 _ _ n4 (u3.extBut _ _ n2 (u2.extBut _ _ n3 (u1.extBut _ _ n1 x))))) ⟨oe, u5.extBut _ _ ne e1, e2⟩
  · show wpAny _ _ (field (.ref z) 2 >>= _) _ _ _
    have F2 := hz
    refine wpAny_bind (wpAny_field F2 rfl (x := .bool false) rfl ?_)
    show wpAny _ _ (field (.ref z) 3 >>= _) _ _ _
    refine wpAny_bind (wpAny_field F2 rfl (x := .ref TI) rfl ?_)
    refine wpAny_bind (wpAny_seqItems tI rfl ?_)
    show wpAny _ _ (Builtin.SmallTypes.ownedTupleIsFree (.ref z) >>= _) _ _ _
    refine wpAny_bind (wpAny_tupleHeld_zip F2 hT fun g1 z1 u1 => ?_)
    simp only [Bool.false_eq_true, if_false]
    refine wpAny_bind ?_
    rw [← Array.forIn_toList]
    simp only [List.forIn_cons, List.forIn_nil]
    refine wpAny_bind (wpAny_bind (wpAny_holding ?_))
    show wpAny _ _ (Builtin.SmallTypes.nextOf (.ref i1) >>= _) _ _ _
    cases hx : xs[k]? with
    | none =>
      refine wpAny_bind (p.fin (s := { s with heap := g1 }) hh (p.keep b1 fun o => u1.extBut _ _ D.i1z) (p.hold c1 fun o => u1.extBut _ _ D.l1z) hx fun g2 e u2 he => ?_)
      exact hE g2 e (fun c o n1 _ n3 _ x => u2 _ _ n3 (u1.extBut _ _ n1 x)) he
    | some x =>
      have hy : ys[k]? = none := by
        rcases hend with h | h
        · rw [hx] at h; cases h
        · exact h
      refine wpAny_bind (p.item (s := { s with heap := g1 }) (p.keep b1 fun o => u1.extBut _ _ D.i1z) (p.hold c1 fun o => u1.extBut _ _ D.l1z) hx fun g2 b1' u2 => wpAny_pure ?_)
      refine wpAny_pure ?_
      refine wpAny_bind (wpAny_bind (wpAny_holding ?_))
      show wpAny _ _ (Builtin.SmallTypes.nextOf (.ref i2) >>= _) _ _ _
      refine wpAny_bind (q.fin (s := { s with heap := g2 }) hh (q.keep b2 fun o e => u2.extBut _ _ D.i12.symm (u1.extBut _ _ D.i2z e))
        (q.hold c2 fun o e => u2.extBut _ _ D.l2i1 (u1.extBut _ _ D.l2z e)) hy fun g3 e u3 he => ?_)
      exact hE g3 e (fun c o n1 _ n3 n4 x => u3 _ _ n4 (u2.extBut _ _ n3 (u1.extBut _ _ n1 x))) he
theorem zg_nx {x y : Value} {Q : Option Value → Shared → Prop} (D : ZipApart z TI TO i1 i2 l1 l2) (p : Sd prog w i1 l1 xs S1 C1) (q : Sd prog w i2 l2 ys S2 C2) (st : Zst z TI TO i1 i2 S S1 S2 C1 C2 k s.heap) (hS : S < s.heap.objs.size)
    (hx : xs[k]? = some x) (hy : ys[k]? = some y)
    (hQ : ∀ g, Zst z TI TO i1 i2 S S1 S2 C1 C2 (k + 1) g → IsPair g s.heap.objs.size x y → g.objs.size = s.heap.objs.size + 1 → (∀ c o, c ≠ z → c ≠ TO → c ≠ i1 → c ≠ i2 → s.heap.get? c = some o → g.get? c = some o) → Q (some (.ref s.heap.objs.size)) { s with heap := g }) :
    wpAny (model prog w) A (pyNext (.ref z)) Q E s := by
  have ty : s.TypeIs (.ref z) "zip" := by
    rcases st.2.2.2.2.2 with ⟨hz, _⟩ | ⟨_, _, _, hz, _⟩
    · exact ⟨_, hz, rfl⟩
    · exact ⟨_, hz, rfl⟩
  unfold pyNext
  exact wpAny_bind (wpAny_attempt (wpAny_callSpecial?_slot (name := Str.ofString "__next__") ty F.slot_zip_next
    (wpAny_call_entry F.slot_zip_next ty F.entry_zip_next (zg_one D p q st hS hx hy fun g a1 a2 a3 a4 => wpAny_pure (hQ g a1 a2 a3 a4)) (F.args_zip_next_1 _))))
theorem zg_no {Q : Option Value → Shared → Prop} (hh : A.handled = none) (D : ZipApart z TI TO i1 i2 l1 l2) (p : Sd prog w i1 l1 xs S1 C1) (q : Sd prog w i2 l2 ys S2 C2) (st : Zst z TI TO i1 i2 S S1 S2 C1 C2 k s.heap)
    (hend : xs[k]? = none ∨ ys[k]? = none)
    (hQ : ∀ g, (∀ c o, c ≠ z → c ≠ TO → c ≠ i1 → c ≠ i2 → s.heap.get? c = some o → g.get? c = some o) → Q none { s with heap := g }) : wpAny (model prog w) A (pyNext (.ref z)) Q E s := by
  have ty : s.TypeIs (.ref z) "zip" := by
    rcases st.2.2.2.2.2 with ⟨hz, _⟩ | ⟨_, _, _, hz, _⟩
    · exact ⟨_, hz, rfl⟩
    · exact ⟨_, hz, rfl⟩
  unfold pyNext
  refine wpAny_bind (wpAny_attempt (wpAny_callSpecial?_slot (name := Str.ofString "__next__") ty F.slot_zip_next
    (wpAny_call_entry F.slot_zip_next ty F.entry_zip_next (zg_end hh D p q st hend fun g e kp he => ?_) (F.args_zip_next_1 _))))
  obtain ⟨o, e1, e2⟩ := he
  refine wpAny_bind (wpAny_isInstance (T := "StopIteration") (b := true) ⟨o, e1, e2⟩ isSubtype_stop ?_)
  exact wpAny_pure (hQ _ kp)
end
/-- new pairs, one behind the other -/
structure Nws (xs ys : Array Value) (lo : Addr) (h : Heap) (as : List Addr) : Prop where
  up : as.Pairwise (· < ·)
  lo : ∀ a ∈ as, lo < a
  at_ : ∀ (j : Nat) (a : Addr), as[j]? = some a → ∃ x y, xs[j]? = some x ∧ ys[j]? = some y ∧ IsPair h a x y
theorem Nws.lt {lo : Addr} {h : Heap} {as : List Addr} (g : Nws xs ys lo h as) {a : Addr} (ha : a ∈ as) : a < h.objs.size := by
  obtain ⟨j, hj⟩ := List.mem_iff_getElem?.mp ha
  obtain ⟨_, _, _, _, e⟩ := g.at_ j a hj
  exact Heap.lt_size e
theorem Nws.down {lo lo' : Addr} {h : Heap} {as : List Addr} (g : Nws xs ys lo h as) (hl : lo' ≤ lo) : Nws xs ys lo' h as := ⟨g.up, fun a ha => Nat.lt_of_le_of_lt hl (g.lo a ha), g.at_⟩
section
variable {A : Around} {s : Shared} {R : Result → Shared → Prop}
theorem zg_loop (hh : A.handled = none) (D : ZipApart z TI TO i1 i2 l1 l2) (p : Sd prog w i1 l1 xs S1 C1) (q : Sd prog w i2 l2 ys S2 C2) (hS : S ≠ z ∧ S ≠ TI ∧ S ≠ TO ∧ S ≠ i1 ∧ S ≠ i2 ∧ S ≠ l1 ∧ S ≠ l2)
    (lo : Addr) (hlo : z ≤ lo ∧ TO ≤ lo ∧ i1 ≤ lo ∧ i2 ≤ lo ∧ S ≤ lo) (res : Value) (hn : min xs.size ys.size ≤ sizeLine) {h₁ : Heap}
    (hR : ∀ g tk acc c as, (∀ b o, b ≠ S → b ≠ z → b ≠ TO → b ≠ i1 → b ≠ i2 → h₁.get? b = some o → g.get? b = some o) → g.get? S = some { cls := .type "list", dict := none, data := .seq acc c, slots := #[] } →
      as.length = min xs.size ys.size → Nws xs ys lo g as → acc.toList = as.map Value.ref → R (.ok (.ret res)) { s with heap := g, toks := tk }) :
    ∀ (m k : Nat) (h : Heap) (tk c : Nat) (acc : Array Value) (as : List Addr), min xs.size ys.size - k = m → k ≤ min xs.size ys.size → Zst z TI TO i1 i2 S S1 S2 C1 C2 k h →
      (∀ b o, b ≠ S → b ≠ z → b ≠ TO → b ≠ i1 → b ≠ i2 → h₁.get? b = some o → h.get? b = some o) →
      h.get? S = some { cls := .type "list", dict := none, data := .seq acc c, slots := #[] } → acc.toList = as.map Value.ref → as.length = k → Nws xs ys lo h as → lo < h.objs.size →
      codeAny (model prog w) A (.builtin "list.extend.loop" ⟨[.ref S, .ref z, res], []⟩) R { s with heap := h, toks := tk } := by
  obtain ⟨y1, y2, y3, y4, y5, y6, y7⟩ := id hS
  obtain ⟨o1, o2, o3, o4, o5⟩ := hlo
  intro m
  induction m with
  | zero =>
    intro k h tk c acc as hm hk st kp gS ha hl nw hlo
    refine codeAny_builtin PySem.F.entry_extend_loop ?_
    rw [Around.under_plainId PySem.F.plain_extend_loop _]
    show wpAny _ A.in1 (pyNext (.ref z) >>= _) _ _ _
    have he : xs[k]? = none ∨ ys[k]? = none := by
      rcases Nat.le_total xs.size ys.size with h | h
      · exact .inl (Array.getElem?_eq_none (by omega))
      · exact .inr (Array.getElem?_eq_none (by omega))
    refine wpAny_bind (zg_no (s := { s with heap := h, toks := tk }) (A := A.in1) hh D p q st he fun g kg => ?_)
    refine wpAny_pure (hR g tk acc c as (fun b o n1 n2 n3 n4 n5 e => kg b o n2 n3 n4 n5 (kp b o n1 n2 n3 n4 n5 e)) (kg S _ y1 y3 y4 y5 gS) (by omega) ⟨nw.up, nw.lo, fun j a hj => ?_⟩ ha)
    obtain ⟨x, y, f1, f2, f3⟩ := nw.at_ j a hj
    have la := nw.lo a (List.mem_of_getElem? hj)
    exact ⟨x, y, f1, f2, kg _ _ (Nat.ne_of_gt (Nat.lt_of_le_of_lt o1 la)) (Nat.ne_of_gt (Nat.lt_of_le_of_lt o2 la)) (Nat.ne_of_gt (Nat.lt_of_le_of_lt o3 la)) (Nat.ne_of_gt (Nat.lt_of_le_of_lt o4 la)) f3⟩
  | succ m ih =>
    intro k h tk c acc as hm hk st kp gS ha hl nw hlo
    have kx : k < xs.size := by omega
    have ky : k < ys.size := by omega
    have hx := Array.getElem?_eq_getElem kx
    have hy := Array.getElem?_eq_getElem ky
    have hsz : acc.size = k := by rw [← Array.length_toList, ha, List.length_map, hl]
    have Sl : S < h.objs.size := Heap.lt_size gS
    refine codeAny_builtin PySem.F.entry_extend_loop ?_
    rw [Around.under_plainId PySem.F.plain_extend_loop _]
    show wpAny _ A.in1 (pyNext (.ref z) >>= _) _ _ _
    refine wpAny_bind (zg_nx (s := { s with heap := h, toks := tk }) D p q st Sl hx hy fun g st' tg sg kg => ?_)
    dsimp only at tg sg kg ⊢
    have gS' := kg S _ y1 y3 y4 y5 gS
    have up : ∀ b o, b ≠ S → g.get? b = some o → (g.update S (Obj.mapSeq (·.push (Value.ref h.objs.size)))).get? b = some o := fun b o hb e => (Heap.get?_update_other _ _ (Ne.symm hb)).trans e
    show wpAny _ A.in1 (updateSeq S (·.push (Value.ref h.objs.size)) >>= _) _ _ _
    refine wpAny_bind ?_
    refine wpAny_updateSeq gS' rfl (wpAny_pure ⟨plainId_quiet PySem.F.plain_extend_loop _, ih (k + 1) _ tk _ (acc.push (Value.ref h.objs.size)) (as ++ [h.objs.size]) (by omega) (by omega) (st'.keep p q hS up)
      (fun b o n1 n2 n3 n4 n5 e => up b o n1 (kg b o n2 n3 n4 n5 (kp b o n1 n2 n3 n4 n5 e))) (Heap.get?_update_self _ gS' rfl) (by rw [Array.toList_push, ha, List.map_append]; rfl) (by rw [List.length_append, hl]; rfl) ⟨?_, ?_, ?_⟩ ?_⟩) (by rw [hsz]; omega) (by show (acc.push (Value.ref h.objs.size)).size ≤ sizeLine + 1; rw [Array.size_push, hsz]; omega)
    · refine List.pairwise_append.mpr ⟨nw.up, List.pairwise_singleton _ _, fun a ha b hb => ?_⟩
      rw [List.mem_singleton.mp hb]
      exact nw.lt ha
    · intro a ha
      rcases List.mem_append.mp ha with ha | ha
      · exact nw.lo a ha
      · rw [List.mem_singleton.mp ha]; exact hlo
    · intro j b hj
      rcases Nat.lt_trichotomy j as.length with h1 | h1 | h1
      · rw [List.getElem?_append_left h1] at hj
        obtain ⟨x, y, f1, f2, f3⟩ := nw.at_ j b hj
        have la := nw.lo b (List.mem_of_getElem? hj)
        exact ⟨x, y, f1, f2, up b _ (Nat.ne_of_gt (Nat.lt_of_le_of_lt o5 la)) (kg _ _ (Nat.ne_of_gt (Nat.lt_of_le_of_lt o1 la)) (Nat.ne_of_gt (Nat.lt_of_le_of_lt o2 la)) (Nat.ne_of_gt (Nat.lt_of_le_of_lt o3 la)) (Nat.ne_of_gt (Nat.lt_of_le_of_lt o4 la)) f3)⟩
      · subst h1
        have hb : h.objs.size = b := by simpa using hj
        subst hb
        exact ⟨_, _, by rw [hl]; exact hx, by rw [hl]; exact hy, up _ _ (Nat.ne_of_gt Sl) tg⟩
      · have no : (as ++ [h.objs.size])[j]? = none := List.getElem?_eq_none (by rw [List.length_append, List.length_singleton]; omega)
        rw [no] at hj; cases hj
    · have e : (g.update S (Obj.mapSeq (·.push (Value.ref h.objs.size)))).get? h.objs.size = _ := up _ _ (Nat.ne_of_gt Sl) tg
      exact Nat.lt_trans hlo (Heap.lt_size e)
end
theorem zip_nolen : typeLookup (.type "zip") "__len__" = pure none := by rw [typeLookup_type, builtinLookup_eq_fast]; kernel_rfl
theorem zip_nohint : typeLookup (.type "zip") "__length_hint__" = pure none := by rw [typeLookup_type, builtinLookup_eq_fast]; kernel_rfl
section
variable {A : Around} {E : Value → Shared → Prop} {s : Shared}
theorem zg_ext {R : Result → Shared → Prop} (hh : A.handled = none) (D : ZipApart z TI TO i1 i2 l1 l2) (p : Sd prog w i1 l1 xs S1 C1) (q : Sd prog w i2 l2 ys S2 C2) (hS : S ≠ z ∧ S ≠ TI ∧ S ≠ TO ∧ S ≠ i1 ∧ S ≠ i2 ∧ S ≠ l1 ∧ S ≠ l2)
    (hlo : z ≤ S ∧ TO ≤ S ∧ i1 ≤ S ∧ i2 ≤ S ∧ S ≤ S) (res : Value) (hn : min xs.size ys.size ≤ sizeLine) (c₀ : Nat) (gS : s.heap.get? S = some { cls := .type "list", data := .seq #[] c₀ }) (st : Zst z TI TO i1 i2 S S1 S2 C1 C2 0 s.heap)
    (hR : ∀ g tk acc c as, (∀ b o, b ≠ S → b ≠ z → b ≠ TO → b ≠ i1 → b ≠ i2 → s.heap.get? b = some o → g.get? b = some o) → g.get? S = some { cls := .type "list", dict := none, data := .seq acc c, slots := #[] } →
      as.length = min xs.size ys.size → Nws xs ys S g as → acc.toList = as.map Value.ref → R (.ok (.ret res)) { s with heap := g, toks := tk }) :
    wpAny (model prog w) A.in1 (Builtin.List.listExtendWith (.ref S) (.ref z) res)
      (fun fin s' => match fin with | .done f => R (.ok f) s' | .again c' => c'.quiet = true ∧ codeAny (model prog w) A c' R s') (fun e s' => R (.error e) s') s := by
  have ty : ∀ {s' : Shared}, Zst z TI TO i1 i2 S S1 S2 C1 C2 0 s'.heap → s'.TypeIs (.ref z) "zip" := fun st => by
    rcases st.2.2.2.2.2 with ⟨hz, _⟩ | ⟨_, _, _, hz, _⟩
    · exact ⟨_, hz, rfl⟩
    · exact ⟨_, hz, rfl⟩
  unfold Builtin.List.listExtendWith
  refine wpAny_bind (wpAny_typeOf (ty st) ?_)
  have k1 : Builtin.List.listSameRef (.ref S) (.ref z) = false := by simp [Builtin.List.listSameRef, hS.1]
  have k2 : (Value.type "zip" == Value.type "list") = false := by decide
  have k3 : (Value.type "zip" == Value.type "tuple") = false := by decide
  simp only [k1, k2, k3, Bool.or_false, Bool.false_eq_true, if_false]
  have self : ∀ {s' : Shared} {Q : Value → Shared → Prop} {E' : Value → Shared → Prop}, Zst z TI TO i1 i2 S S1 S2 C1 C2 0 s'.heap → Q (.ref z) s' → wpAny (model prog w) A.in1 (pyIter (.ref z)) Q E' s' := fun st h => by
    rcases st.2.2.2.2.2 with ⟨hz, _⟩ | ⟨T, f, _, hz, _⟩
    · exact wpAny_pyIter_zip hz h
    · refine wpAny_pyIter_slot (T := "zip") ⟨_, hz, rfl⟩ F.slot_zip_iter (wpAny_call_entry F.slot_zip_iter (T := "zip") ⟨_, hz, rfl⟩ F.entry_zip_iter ?_ (F.args_zip_iter_1 _))
      show wpAny _ _ (ret (.ref z)) _ _ _
      exact wpAny_pure ⟨_, rfl, "zip", _, ⟨_, hz, rfl⟩, F.slot_zip_next.lookup, h⟩
  refine wpAny_bind (self st ?_)
  refine wpAny_bind (wpAny_holding ?_)
  unfold Builtin.List.listLengthHint
  refine wpAny_bind (wpAny_specialOf (ty st) zip_nolen ?_)
  show wpAny _ A.in1 (specialOf (Value.ref z) (Str.ofString "__length_hint__") >>= _) _ _ _
  refine wpAny_bind (wpAny_specialOf (ty st) zip_nohint ?_)
  refine wpAny_pure ?_
  show wpAny _ A.in1 (rule "list.extend.makes-room" >>= fun _ => Builtin.List.listTouch (.ref S) >>= fun _ => again (.builtin "list.extend.loop" ⟨[.ref S, .ref z, res], []⟩)) _ _ _
  refine wpAny_bind (wpAny_rule ?_)
  refine wpAny_bind ?_
  show wpAny _ _ (updateSeq S (·.push .none) >>= fun _ => updateSeq S (·.pop)) _ _ _
  refine wpAny_bind (wpAny_updateSeq gS rfl ?_)
  have g2 := Heap.get?_update_self (Obj.mapSeq (·.push Value.none)) gS rfl
  refine wpAny_updateSeq (hz := by seq_fits) g2 rfl ?_
  have g3 := Heap.get?_update_self (Obj.mapSeq (·.pop)) g2 rfl
  have oth : ∀ b o, b ≠ S → s.heap.get? b = some o → ((s.heap.update S (Obj.mapSeq (·.push Value.none))).update S (Obj.mapSeq (·.pop))).get? b = some o :=
    fun b o hb e => (Heap.get?_update_other _ _ (Ne.symm hb)).trans ((Heap.get?_update_other _ _ (Ne.symm hb)).trans e)
  refine wpAny_pure ⟨plainId_quiet PySem.F.plain_extend_loop _, zg_loop (s := s) (h₁ := s.heap) hh D p q hS S hlo res hn (fun g tk acc c as kp gS' hl nw ha => hR g tk acc c as kp gS' hl nw ha) (min xs.size ys.size) 0 _ _ _ #[] [] (Nat.sub_zero _) (Nat.zero_le _) (st.keep p q hS oth)
    (fun b o n1 _ _ _ _ e => oth b o n1 e) g3 rfl rfl ⟨.nil, (fun _ ha => nomatch ha), fun j a hj => by simp at hj⟩ (Heap.lt_size g3)⟩
theorem zg_call {Q : Value → Shared → Prop} (hh : A.handled = none) (D : ZipApart z TI TO i1 i2 l1 l2) (p : Sd prog w i1 l1 xs S1 C1) (q : Sd prog w i2 l2 ys S2 C2) (hn : min xs.size ys.size ≤ sizeLine)
    (hz : IsZip s.heap z TI TO .none) (tI : IsPair s.heap TI (.ref i1) (.ref i2)) (tO : IsPair s.heap TO .none .none) (b1 : S1 0 s.heap) (b2 : S2 0 s.heap) (c1 : C1 s.heap) (c2 : C2 s.heap) (hl1 : l1 < s.heap.objs.size) (hl2 : l2 < s.heap.objs.size)
    (hQ : ∀ g tk acc c as, (∀ b o, b ≠ z → b ≠ TO → b ≠ i1 → b ≠ i2 → s.heap.get? b = some o → g.get? b = some o) → g.get? s.heap.objs.size = some { cls := .type "list", dict := none, data := .seq acc c, slots := #[] } →
      as.length = min xs.size ys.size → Nws xs ys s.heap.objs.size g as → acc.toList = as.map Value.ref → Q (.ref s.heap.objs.size) { s with heap := g, toks := tk }) :
    wpAny (model prog w) A (call (.type "list") [.ref z]) Q E s := by
  refine callType_codes (Q₁ := fun obj s₁ => obj = .ref s.heap.objs.size ∧ s₁ = { s with heap := s.heap.push { cls := .type "list", data := .seq #[] } }) PySem.F.called_list (PySem.F.typeCall_list_1 _) PySem.F.entry_list_init
    (code_list_new _ ⟨rfl, rfl⟩) fun obj s₁ h₁ => ?_
  obtain ⟨rfl, rfl⟩ := h₁
  have gS : (s.heap.push { cls := .type "list", data := .seq #[] }).get? s.heap.objs.size = some { cls := .type "list", data := .seq #[] } := Heap.get?_push_size _ rfl
  have ps : ∀ b o, s.heap.get? b = some o → (s.heap.push { cls := .type "list", data := .seq #[] }).get? b = some o := fun b o e => Heap.get?_push_of_some _ e
  have nz : z < s.heap.objs.size := Heap.lt_size hz
  have nTI : TI < s.heap.objs.size := Heap.lt_size tI
  have nTO : TO < s.heap.objs.size := Heap.lt_size tO
  have n1 := p.there b1
  have n2 := q.there b2
  refine ⟨⟨_, gS, rfl⟩, PySem.F.args_list_init_2 _ _, ?_⟩
  show wpAny _ _ (do let old ← Builtin.List.listItems (.ref s.heap.objs.size); Builtin.List.listUpdate (.ref s.heap.objs.size) (fun _ => #[]); letGo old.toList.reverse; Builtin.List.listExtendWith (.ref s.heap.objs.size) (.ref z) .none) _ _ _
  refine wpAny_bind ?_
  unfold Builtin.List.listItems
  refine wpAny_bind (wpAny_seqItems gS rfl (wpAny_pure ?_))
  show wpAny _ _ (updateSeq s.heap.objs.size (fun _ => #[]) >>= fun _ => letGo (#[] : Array Value).toList.reverse >>= fun _ => Builtin.List.listExtendWith (.ref s.heap.objs.size) (.ref z) .none) _ _ _
  refine wpAny_bind (wpAny_updateSeq gS rfl ?_)
  have g2 := Heap.get?_update_self (Obj.mapSeq (fun _ => (#[] : Array Value))) gS rfl
  have oth : ∀ b o, b ≠ s.heap.objs.size → s.heap.get? b = some o → ((s.heap.push { cls := .type "list", data := .seq #[] }).update s.heap.objs.size (Obj.mapSeq (fun _ => (#[] : Array Value)))).get? b = some o :=
    fun b o hb e => (Heap.get?_update_other _ _ (Ne.symm hb)).trans (ps b o e)
  have ot : ∀ b o, s.heap.get? b = some o → ((s.heap.push { cls := .type "list", data := .seq #[] }).update s.heap.objs.size (Obj.mapSeq (fun _ => (#[] : Array Value)))).get? b = some o :=
    fun b o e => oth b o (Nat.ne_of_lt (Heap.lt_size e)) e
  refine wpAny_bind (wpAny_letGo ?_)
  refine zg_ext (A := A.in1) hh D p q (S := s.heap.objs.size) ⟨Nat.ne_of_gt nz, Nat.ne_of_gt nTI, Nat.ne_of_gt nTO, Nat.ne_of_gt n1, Nat.ne_of_gt n2, Nat.ne_of_gt hl1, Nat.ne_of_gt hl2⟩ ⟨Nat.le_of_lt nz, Nat.le_of_lt nTO, Nat.le_of_lt n1, Nat.le_of_lt n2, Nat.le_refl _⟩ .none hn _ g2
    ⟨ot _ _ tI, p.keep b1 fun o => ot _ o, q.keep b2 fun o => ot _ o, p.hold c1 fun o => ot _ o, q.hold c2 fun o => ot _ o, .inl ⟨ot _ _ hz, _, _, ot _ _ tO⟩⟩ (fun g tk acc c as kp gS' hl nw ha => ?_)
  exact ⟨rfl, hQ g tk acc c as (fun b o n1 n2 n3 n4 e => kp b o (Nat.ne_of_lt (Heap.lt_size e)) n1 n2 n3 n4 (ot b o e)) gS' hl nw ha⟩
end
end
end DL

namespace DL
open PySem PySem.Spec PyProof PyProof.Rows L2
open Evl (Ex)
open RZ
/-- pairs that are laid one behind the other -/
inductive Prs : Hp → List Addr → List (V × V) → Hp → Prop
  | nil {H : Hp} : Prs H [] [] H
  | cons {H H2 : Hp} {a : Addr} {x y : V} {as : List Addr} {r : List (V × V)} {ob : Obj} (hb : ob.dict = none) (h : H a = none) (t : Prs (upd H a (.frz ob (.tup [x, y]))) as r H2) : Prs H (a :: as) ((x, y) :: r) H2
theorem lay_prs {X : Cx} {pins : List (Addr × Obj)} {σ : L2.St} {g : Heap} : ∀ (as : List Addr) (r : List (V × V)) (H : Hp) (s : Shared), Inv X pins σ H s → as.Nodup → (∀ a ∈ as, s.heap.get? a = none ∧ H a = none) →
    (∀ b o, s.heap.get? b = some o → g.get? b = some o) → as.length = r.length → (∀ (j : Nat) (a : Addr) (x y : V), as[j]? = some a → r[j]? = some (x, y) → ∃ u v, RelV x u ∧ RelV y v ∧ IsPair g a u v) →
    ∃ (H2 : Hp) (G : Heap), Prs H as r H2 ∧ Inv X pins σ H2 { s with heap := G } ∧ (∀ b o, G.get? b = some o → g.get? b = some o) ∧ ∀ b, b ∉ as → s.heap.get? b = none → H b = none → G.get? b = none ∧ H2 b = none
  | [], [], H, s, I, _, _, k, _, _ => ⟨H, s.heap, .nil, I, k, fun _ _ h1 h2 => ⟨h1, h2⟩⟩
  | [], _ :: _, _, _, _, _, _, _, hl, _ => by simp at hl
  | _ :: _, [], _, _, _, _, _, _, hl, _ => by simp at hl
  | a :: as, (x, y) :: r, H, s, I, hd, hf, k, hl, hp => by
    obtain ⟨u, v, ru, rv, pr⟩ := hp 0 a x y rfl rfl
    obtain ⟨f1, f2⟩ := hf a List.mem_cons_self
    rw [List.nodup_cons] at hd
    obtain ⟨G, g1, g2⟩ := restrict g fun b => (s.heap.get? b).isSome || decide (b = a)
    have kG : ∀ b o, s.heap.get? b = some o → G.get? b = some o := fun b o e => by
      rw [g1 b (by rw [e]; rfl)]
      exact k b o e
    have aG : IsPair G a u v := (g1 a (by simp)).trans pr
    have Gg : ∀ b o, G.get? b = some o → g.get? b = some o := fun b o e => by
      cases c : ((s.heap.get? b).isSome || decide (b = a)) with
      | true => rw [← g1 b c]; exact e
      | false => rw [g2 b c] at e; cases e
    obtain ⟨ob, b1, b2, b3, b4⟩ : ∃ ob : Obj, G.get? a = some ob ∧ ob.dict = none ∧ ob.cls = .type "tuple" ∧ ∃ m, ob.data = .seq #[u, v] m := ⟨_, aG, rfl, rfl, _, rfl⟩
    have new : ObjOk X.prog X.w (upd H a (.frz ob (.tup [x, y]))) G a (.frz ob (.tup [x, y])) := ⟨b1, by show 2 ≤ sizeLine; decide, [u, v], .cons ru (.cons rv .nil), ⟨_, b1, b3, b4⟩⟩
    have I1 : Inv X pins σ (upd H a (.frz ob (.tup [x, y]))) { s with heap := G } := I.laidN (t' := s.toks) kG f1 f2 new
    have no : ∀ b, b ≠ a → s.heap.get? b = none → G.get? b = none := fun b n e => g2 b (by rw [e]; simp [n])
    obtain ⟨H2, G2, p2, I2, k2, n2⟩ := lay_prs as r (upd H a (.frz ob (.tup [x, y]))) { s with heap := G } I1 hd.2
      (fun b hb => by
        have n : b ≠ a := fun z => hd.1 (z ▸ hb)
        obtain ⟨h1, h2⟩ := hf b (List.mem_cons_of_mem _ hb)
        exact ⟨no b n h1, by rw [upd_ne n]; exact h2⟩)
      Gg (by simpa using hl) (fun j b z w h1 h2 => hp (j + 1) b z w (by simpa using h1) (by simpa using h2))
    refine ⟨H2, G2, .cons b2 f2 p2, I2, k2, fun b hb h1 h2 => ?_⟩
    have n : b ≠ a := fun z => hb (z ▸ List.mem_cons_self)
    exact n2 b (fun z => hb (List.mem_cons_of_mem _ z)) (no b n h1) (by rw [upd_ne n]; exact h2)

def tLstZip (K : PySem.W.Frag) (ta : TA) : TE := fun σ H Q => ta σ H fun vs H1 => ∃ a b xs ys, vs = [.ref a, .ref b] ∧ ((SqL K H1 a xs ∧ SqL K H1 b ys) ∨ (SqT K H1 a xs ∧ SqT K H1 b ys)) ∧
  ∀ as H2 l, Prs H1 as (xs.zip ys) H2 → H2 l = none → Q (.ref l) (upd H2 l (.lst (as.map V.ref)))
theorem vals_refs : ∀ as : List Addr, Vals (as.map V.ref) (as.map Value.ref)
  | [] => .nil
  | _ :: as => .cons rfl (vals_refs as)
section
variable {X : Cx} {ta : TA}
theorem lz_fin {pins : List (Addr × Obj)} {σ : L2.St} {H1 : Hp} {s1 : Shared} {xs ys : List V} {its its2 : List Value} {Q : VK} (I1 : Inv X pins σ H1 s1) (rv : Vals xs its) (rv2 : Vals ys its2)
    (q : ∀ as H2 l, Prs H1 as (xs.zip ys) H2 → H2 l = none → Q (.ref l) (upd H2 l (.lst (as.map V.ref)))) (g : Heap) (tk : Nat) (acc : Array Value) (c : Nat) (as : List Addr) (l : Addr) (hlt : s1.heap.objs.size ≤ l)
    (kp : ∀ b o, s1.heap.get? b = some o → g.get? b = some o) (gS : g.get? l = some { cls := .type "list", dict := none, data := .seq acc c, slots := #[] }) (hl : as.length = min its.toArray.size its2.toArray.size) (hn : min its.toArray.size its2.toArray.size ≤ sizeLine)
    (nw : Nws its.toArray its2.toArray l g as) (ha : acc.toList = as.map Value.ref) :
    ∃ v H', Inv X pins σ H' { s1 with heap := g, toks := tk } ∧ RelV v (.ref l) ∧ Q v H' := by
  have l1 := rv.length
  have l2 := rv2.length
  have fr : ∀ b, s1.heap.objs.size ≤ b → s1.heap.get? b = none ∧ H1 b = none := fun b hb => ⟨by
    cases e : s1.heap.get? b with
    | none => rfl
    | some o => exact absurd (Heap.lt_size e) (Nat.not_lt.mpr hb), I1.hok.fresh hb⟩
  have hl' : as.length = (xs.zip ys).length := by
    rw [hl, List.length_zip, l1, l2]
    simp
  obtain ⟨H2, G, p2, I2, k2, n2⟩ := lay_prs (g := g) as (xs.zip ys) H1 s1 I1 (nw.up.imp fun h => Nat.ne_of_lt h) (fun a ha => fr a (Nat.le_trans hlt (Nat.le_of_lt (nw.lo a ha)))) kp hl'
    (fun j a x y hj hr => by
      obtain ⟨u, v, e1, e2, e3⟩ := nw.at_ j a hj
      obtain ⟨z1, z2⟩ := List.getElem?_zip_eq_some.mp hr
      obtain ⟨u', e4, r1⟩ := rv.get z1
      obtain ⟨v', e5, r2⟩ := rv2.get z2
      have e6 : its[j]? = some u := by simpa using e1
      have e7 : its2[j]? = some v := by simpa using e2
      rw [e6] at e4
      rw [e7] at e5
      cases e4
      cases e5
      exact ⟨_, _, r1, r2, e3⟩)
  obtain ⟨m1, m2⟩ := n2 l (fun z => absurd (nw.lo l z) (Nat.lt_irrefl _)) (fr l hlt).1 (fr l hlt).2
  have new : ObjOk X.prog X.w (upd H2 l (.lst (as.map V.ref))) g l (.lst (as.map V.ref)) := by
    refine ⟨by rw [List.length_map, hl]; exact hn, as.map Value.ref, c, vals_refs as, ?_⟩
    rw [gS, ← ha]
  exact ⟨.ref l, _, I2.laidN (t' := tk) k2 m1 m2 new, rfl, q as H2 l p2 m2⟩
theorem pe_lstZip {e e2 : Expr} {p p2 pz pos : Pos} (hg : Gl X "list") (hm : X.mg "list" = none) (hg2 : Gl X "zip") (hm2 : X.mg "zip" = none) (ha : PA X [e, e2] ta) (hc : X.calm = true := by rfl)
    (hs : starEach [e, e2] X.env = (false, eval e X.env) :: starEach [e2] X.env := by rfl) (hpl : (backTo pz (starEach [e2] X.env)).any (·.1) = false := by rfl)
    (na : starEach [.Call (.Name "zip" p2) [e, e2] [] pz] X.env = (false, eval (.Call (.Name "zip" p2) [e, e2] [] pz) X.env) :: starEach [] X.env := by rfl) :
    PE X (.Call (.Name "list" p) [.Call (.Name "zip" p2) [e, e2] [] pz] [] pos) (tLstZip X.K ta) := by
  refine ⟨fun pins s σ H Q I h => ?_⟩
  refine Call_ (ld_blt I hg hm boot_list ?_)
  refine PyProof.Rows.callWith_type1 (PyProof.Rows.args_cons ?_ na) na rfl
  refine Call_ (ld_blt I hg2 hm2 boot_zip ?_)
  refine PyProof.Rows.callWith_type1 (thn (ha.run pz pins s σ H _ I h) fun us s1 ⟨vs, H1, I1, r1, q1⟩ => ?_) hs hpl
  obtain ⟨a, b, xs, ys, ex, q1, q⟩ := q1
  subst ex
  cases r1 with
  | cons r rr =>
    cases rr with
    | cons r' rr =>
      cases rr
      cases r
      cases r'
      rcases q1 with ⟨hqx, hqy⟩ | ⟨hqx, hqy⟩
      · obtain ⟨its, rv, p1, n1⟩ := I1.list hqx
        obtain ⟨its2, rv2, p2, n2⟩ := I1.list hqy
        have hmin : min its.toArray.size its2.toArray.size ≤ sizeLine := by
          have := rv.length
          simp only [List.size_toArray]
          omega
        refine call_zip_2 p1.isList p2.isList fun h' hz hTI hTO h1 h2 hsz hk => args_nil ?_
        refine zg_call (s := { s1 with heap := h' }) (I1.ok.hd hc) (PySem.W.ktu_apart s1.heap.objs.size a b p1.lt p2.lt) (Sd.list (xs := its.toArray)) (Sd.list (xs := its2.toArray)) hmin hz hTI hTO h1 h2
          (Heap.IsList.at p1.isList fun o e => hk _ o e) (Heap.IsList.at p2.isList fun o e => hk _ o e) (Nat.lt_of_lt_of_le p1.lt (by rw [hsz]; exact Nat.le_add_right _ _)) (Nat.lt_of_lt_of_le p2.lt (by rw [hsz]; exact Nat.le_add_right _ _)) fun g tk acc c as kp gS hl nw ha => ?_
        refine lz_fin I1 rv rv2 q g tk acc c as h'.objs.size (by rw [hsz]; exact Nat.le_add_right _ _) (fun b o e => ?_) gS hl hmin nw ha
        have hb := Heap.lt_size e
        exact kp b o (Nat.ne_of_lt (Nat.lt_of_lt_of_le hb (Nat.le_add_right _ _))) (Nat.ne_of_lt (Nat.lt_of_lt_of_le hb (Nat.le_add_right _ _))) (Nat.ne_of_lt hb) (Nat.ne_of_lt (Nat.lt_of_lt_of_le hb (Nat.le_add_right _ _))) (hk b o e)
      · obtain ⟨its, rv, p1, n1⟩ := I1.tuple hqx
        obtain ⟨its2, rv2, p2, n2⟩ := I1.tuple hqy
        obtain ⟨o1, ho1, _⟩ := id p1
        obtain ⟨o2, ho2, _⟩ := id p2
        have hmin : min its.toArray.size its2.toArray.size ≤ sizeLine := by
          have := rv.length
          simp only [List.size_toArray]
          omega
        have lt1 := Heap.lt_size ho1
        have lt2 := Heap.lt_size ho2
        refine call_zipT (show s1.heap.IsTuple a its.toArray from p1) (show s1.heap.IsTuple b its2.toArray from p2) fun h' hz hTI hTO h1 h2 hsz hk => args_nil ?_
        refine zg_call (s := { s1 with heap := h' }) (I1.ok.hd hc) (PySem.W.ktu_apart s1.heap.objs.size a b lt1 lt2) (Sd.tup (xs := its.toArray)) (Sd.tup (xs := its2.toArray)) hmin hz hTI hTO h1 h2
          (Heap.IsTuple.at p1 fun o e => hk _ o e) (Heap.IsTuple.at p2 fun o e => hk _ o e) (Nat.lt_of_lt_of_le lt1 (by rw [hsz]; exact Nat.le_add_right _ _)) (Nat.lt_of_lt_of_le lt2 (by rw [hsz]; exact Nat.le_add_right _ _)) fun g tk acc c as kp gS hl nw ha => ?_
        refine lz_fin I1 rv rv2 q g tk acc c as h'.objs.size (by rw [hsz]; exact Nat.le_add_right _ _) (fun b o e => ?_) gS hl hmin nw ha
        have hb := Heap.lt_size e
        exact kp b o (Nat.ne_of_lt (Nat.lt_of_lt_of_le hb (Nat.le_add_right _ _))) (Nat.ne_of_lt (Nat.lt_of_lt_of_le hb (Nat.le_add_right _ _))) (Nat.ne_of_lt hb) (Nat.ne_of_lt (Nat.lt_of_lt_of_le hb (Nat.le_add_right _ _))) (hk b o e)
end
section
variable {K : PySem.W.Frag}
theorem Prs.data : ∀ {H : Hp} {as : List Addr} {r : List (V × V)} {H2 : Hp}, Prs H as r H2 → ∀ {A B Hd : Hp} {xs ys : List V} {ds es : List PyData}, Ext A B Hd H → r = xs.zip ys → DtA K Hd xs ds → DtA K Hd ys es →
    ∃ Hd2, Ext A B Hd2 H2 ∧ Ex Hd Hd2 ∧ DtA K Hd2 (as.map V.ref) (zipD ds es)
  | _, _, _, _, .nil, A, B, Hd, xs, ys, ds, es, x, hr, d1, d2 => by
    refine ⟨Hd, x, .refl _, ?_⟩
    have : zipD ds es = [] := by
      cases d1 with
      | nil => rfl
      | cons _ _ => cases d2 with
        | nil => simp [zipD]
        | cons _ _ => cases hr
    rw [this]
    exact .nil
  | _, _, _, _, .cons (a := a) (x := vx) (y := vy) (ob := ob) hob h t, A, B, Hd, xs, ys, ds, es, x, hr, d1, d2 => by
    cases d1 with
    | nil => cases hr
    | cons g1 d1 => cases d2 with
      | nil => cases hr
      | cons g2 d2 =>
        have hr' := hr
        simp only [List.zip_cons_cons, List.cons.injEq, Prod.mk.injEq] at hr'
        obtain ⟨⟨rfl, rfl⟩, hr'⟩ := hr'
        have hB := Evl.fresh_back x.i h
        have x1 := x.new (o := .frz ob (.tup [vx, vy])) h
        obtain ⟨Hd2, x2, e2, dd⟩ := Prs.data t x1 hr' (d1.mono (Ex.new hB)) (d2.mono (Ex.new hB))
        refine ⟨Hd2, x2, (Ex.new hB).trans e2, ?_⟩
        exact .cons ((Dt.tup (Tp.new hob) (.cons (g1.mono (Ex.new hB)) (.cons (g2.mono (Ex.new hB)) .nil))).mono e2) dd
/-- list(zip(a, b)) -/
def sLstZip (a : SA K) : SF K := ⟨tLstZip K a.ta, fun Γ => (a.ev Γ).bind fun x => match x with | [.list xs, .list ys] => some (zipD xs ys) | [.tuple xs, .tuple ys] => some (zipD xs ys) | _ => none, fun {Γ ds} h => by
  obtain ⟨x, h1, h⟩ := bnd h
  have key : ∀ (xs ys : List PyData) (a1 b1 : Addr) (vs ws : List V) (Hd Hd1 H H1 : Hp) (Q : VK), Ext Hd H Hd1 H1 → DtA K Hd1 vs xs → DtA K Hd1 ws ys →
      (∀ (a : Addr) (vs : List V) (Hd' H' : Hp), Ext Hd H Hd' H' → H a = none → Hd' a = none → H' a = some (.lst vs) → DtA K Hd' vs (zipD xs ys) → Q (.ref a) H') →
      ∀ as H2 l, Prs H1 as (vs.zip ws) H2 → H2 l = none → Q (.ref l) (upd H2 l (.lst (as.map V.ref))) := fun xs ys a1 b1 vs ws Hd Hd1 H H1 Q x1 d1 d2 q as H2 l p hl => by
    obtain ⟨Hd2, x2, _, dd⟩ := p.data x1 rfl d1 d2
    have n1 := Evl.fresh_back x2.h hl
    have n2 := Evl.fresh_back x2.i hl
    exact q l _ Hd2 _ (x2.mut n1 n2) n1 n2 upd_same dd
  split at h
  · cases h
    rename_i xs ys
    intro Hd0 H0 σ Hd H e Q q
    refine a.ok h1 _ _ σ Hd H e _ fun v Hd1 H1 x1 d1 => ?_
    cases d1 with
    | cons g1 d1 => cases d1 with
      | cons g2 d1 =>
        cases d1
        cases g1 with
        | lst k1 k2 => cases g2 with
          | lst k3 k4 => exact ⟨_, _, _, _, rfl, .inl ⟨SqL.of (x1.i _ _ k1), SqL.of (x1.i _ _ k3)⟩, key xs ys 0 0 _ _ _ _ _ _ Q x1 k2 k4 q⟩
  · cases h
    rename_i xs ys
    intro Hd0 H0 σ Hd H e Q q
    refine a.ok h1 _ _ σ Hd H e _ fun v Hd1 H1 x1 d1 => ?_
    cases d1 with
    | cons g1 d1 => cases d1 with
      | cons g2 d1 =>
        cases d1
        cases g1 with
        | tup k1 k2 => cases g2 with
          | tup k3 k4 => exact ⟨_, _, _, _, rfl, .inr ⟨((k1.mono x1.i).sq (K := K)), ((k3.mono x1.i).sq (K := K))⟩, key xs ys 0 0 _ _ _ _ _ _ Q x1 k2 k4 q⟩
  · cases h⟩
end
end DL

namespace DL
open PySem PySem.Spec PyProof PyProof.Rows L2
open Evl (Ex)
open RZ RT
section
variable {K : PySem.W.Frag} {Γ : List G} {te : TE} {ds : List PyData}
theorem ei_revL (h : ED K te Γ (.list ds)) : EI K (iRevA K te) Γ ds.reverse := fun _ _ σ Hd H e R q => h _ _ σ Hd H e _ fun v Hd1 H1 x1 d1 => by
  cases d1 with
  | @lst a vs _ h1 h2 =>
    refine ⟨_, _, rfl, .inl ⟨SqL.of (x1.i _ _ h1), q _ Hd1 H1 x1 fun Hd' H' e1 e2 => ?_⟩⟩
    have hl := SqL.of (K := K) (e2 _ _ (e1 _ _ h1))
    refine ⟨by show vs.length ≤ ds.reverse.length; rw [List.length_reverse, h2.length]; exact Nat.le_refl _, fun i d hd => ?_⟩
    have hi : i < ds.length := by
      have := (List.getElem?_eq_some_iff.mp hd).1
      rwa [List.length_reverse] at this
    rw [List.getElem?_reverse hi] at hd
    obtain ⟨u, g1, g2⟩ := h2.got hd
    rw [← h2.length] at g1
    exact ⟨⟨by rw [h2.length]; exact hi, _, u, hl, g1⟩, fun x H'' ⟨eH, y⟩ => by
      have z := y _ hl
      rw [g1] at z
      cases z
      subst eH
      exact ⟨Hd', .refl e2, g2.mono e1⟩⟩
theorem ei_revT (h : ED K te Γ (.tuple ds)) : EI K (iRevA K te) Γ ds.reverse := fun _ _ σ Hd H e R q => h _ _ σ Hd H e _ fun v Hd1 H1 x1 d1 => by
  cases d1 with
  | @tup a vs _ h1 h2 =>
    refine ⟨_, _, rfl, .inr ⟨((h1.mono x1.i).sq (K := K)), q _ Hd1 H1 x1 fun Hd' H' e1 e2 => ?_⟩⟩
    have hl := (((h1.mono e1).mono e2).sq (K := K))
    refine ⟨by show vs.length ≤ ds.reverse.length; rw [List.length_reverse, h2.length]; exact Nat.le_refl _, fun i d hd => ?_⟩
    have hi : i < ds.length := by
      have := (List.getElem?_eq_some_iff.mp hd).1
      rwa [List.length_reverse] at this
    rw [List.getElem?_reverse hi] at hd
    obtain ⟨u, g1, g2⟩ := h2.got hd
    rw [← h2.length] at g1
    exact ⟨⟨by rw [h2.length]; exact hi, _, u, hl, g1⟩, fun x H'' ⟨eH, y⟩ => by
      have z := y _ hl
      rw [g1] at z
      cases z
      subst eH
      exact ⟨Hd', .refl e2, g2.mono e1⟩⟩
/-- reversed(x) as what a loop walks -/
def iRv (a : SX K) : SI K := ⟨iRevA K a.te, fun Γ => (a.ev Γ).bind fun x => match x with | .list xs => some xs.reverse | .tuple xs => some xs.reverse | _ => none, fun {Γ ds} h => by
  obtain ⟨x, h1, h⟩ := bnd h
  cases x with
  | list xs => cases h; exact ei_revL (a.ok h1)
  | tuple xs => cases h; exact ei_revT (a.ok h1)
  | _ => cases h⟩
/-- the greatest of some numbers -/
def maxI (l : List Int) : Option Int := l.find? fun m => l.all fun y => decide (y ≤ m)
theorem maxI_of {l : List Int} {m : Int} (h : m ∈ l) (hm : ∀ y ∈ l, y ≤ m) : maxI l = some m := by
  unfold maxI
  cases e : l.find? (fun m => l.all fun y => decide (y ≤ m)) with
  | none =>
    have := List.find?_eq_none.mp e m h
    exact absurd (List.all_eq_true.mpr fun y hy => decide_eq_true (hm y hy)) this
  | some k =>
    have h1 := List.find?_some e
    have h2 := List.mem_of_find?_eq_some e
    have h3 := of_decide_eq_true (List.all_eq_true.mp h1 m h)
    have h4 := hm k h2
    rw [show k = m by omega]
def sMaxI (a : SQ K) : SX K := ⟨tCB (rMax K) (tCons a.te tNil), fun Γ => (a.ev Γ).bind fun x => if x.1 = true then (nums x.2).bind fun bs => (maxI bs).bind fun m => some (.int m) else none, fun {Γ d} h => by
  obtain ⟨⟨b, ds⟩, h1, h⟩ := bnd h
  cases b with
  | false => cases h
  | true =>
    have h : ((nums ds).bind fun bs => (maxI bs).bind fun m => some (PyData.int m)) = some d := h
    obtain ⟨l, h2, hx⟩ := bnd h
    clear h
    obtain ⟨m, h3, h⟩ := bnd hx
    cases h
    have e := nums_map h2
    subst e
    unfold maxI at h3
    have m1 := List.mem_of_find?_eq_some h3
    have m2 : ∀ y ∈ l, y ≤ m := fun y hy => by
      have h5 := List.find?_some (p := fun m => l.all fun y => decide (y ≤ m)) h3
      exact of_decide_eq_true (List.all_eq_true.mp h5 y hy)
    intro Hd0 H0 σ Hd H e Q q
    refine a.ok h1 _ _ σ Hd H e _ fun p vs Hd1 H1 x1 g1 _ d1 => ?_
    have ev := d1.ofInts
    subst ev
    refine ⟨p, l, rfl, SqL.of g1, List.length_pos_of_mem m1, fun k hk hy => ?_⟩
    have := m2 k hk
    have := hy m m1
    rw [show k = m by omega]
    exact q _ Hd1 H1 x1 (.int _)⟩
theorem maxS {X : Cx} (K : PySem.W.Frag) (h : X.K = K := by rfl) (hc : X.calm = true := by rfl) : CallR X (.builtin "max") (rMax K) := h ▸ cr_max hc
end
section
variable {P : Program} {w : World} {K : PySem.W.Frag} {mg : Str → Option Value} {base : Heap}
/-- a def that raises nothing, called in both ways -/
theorem ok_fnEK {x : Str} {ps ks N : List Str} {ix : List Nat} {st : Stmt} {k n : Nat} (X : Tx K mg x ps st) (S : FnScope N ps (defScope st)) (hn : ps.length = n) (s : SS K)
    (hkb : ∀ (kV doc pm : Value) (an : Option Addr) (cdv ct : Value) (us ws : List Value), (permL ix us ws).length = ps.length →
      bindArgs (PySem.W.fnOf x x (defArgs st) (defBody st) (defScope st) .none kV doc pm an cdv ct) ⟨us, ks.zip ws⟩ = pure (ps.zip (permL ix us ws)))
    (hb : ∀ (f : Addr) (cdv : Value) (A : Around) (outer : List Env) (s' : Shared) (H : Hp) (E : XK), Room k (A.deeper (envOfC x (defScope st) s'.heap.objs.size f cdv)) → ∃ t, PSs (cxOf CX0 P w K mg base N x (defScope st) f cdv A outer s' H E).nox (defBody st) t ∧ t = s.ts) :
    Df P w K mg base (k + 1) x ps (spF K n (runF N s)) ∧ DfK P w K mg base (k + 1) x ps ks (permL ix) (permL ix) (spF K n (runF N s)) := by
  refine X.ok2 S (fun vs H Q E h => h.1.trans hn.symm) hkb (fun r1 r2 => perm_rel r1 r2) fun f cdv A outer s' H vs Q E hr h => ?_
  obtain ⟨hl, Hd, ds, r, e, hd, ⟨hl2, hr2⟩, q⟩ := h
  obtain ⟨t, h1, h2⟩ := hb f cdv A outer s' H E hr
  subst h2
  exact ⟨_, h1, run_ok e hd hr2 q⟩
end
end DL

namespace DL
open PySem PySem.Spec PyProof PyProof.Rows L2
open Evl (Ex)
open RZ HT
/-! ### t[::-1] of a tuple -/
section
variable {prog : Program} {w : World} {A : Around} {E : Value → Shared → Prop} {s : Shared}
theorem back_places (n : Nat) : Builtin.Slice.slicePlaces ((n : Int) - 1) (-1) (-1) = n := by
  unfold Builtin.Slice.slicePlaces
  rw [if_neg (by decide)]
  by_cases c : (n : Int) - 1 > -1
  · rw [if_pos c]
    show (((n : Int) - 1 - -1 - 1) / 1 + 1).toNat = n
    rw [Int.ediv_one]
    omega
  · rw [if_neg c]
    omega
theorem fm_same {α β : Type} {f g : α → Option β} : ∀ {l : List α}, (∀ x ∈ l, f x = g x) → l.filterMap f = l.filterMap g
  | [], _ => rfl
  | x :: l, h => by
    rw [List.filterMap_cons, List.filterMap_cons, h x List.mem_cons_self, fm_same fun y hy => h y (List.mem_cons_of_mem _ hy)]
theorem back_pick (l : List Value) : (List.range l.length).filterMap (fun (k : Nat) => l[((l.length : Int) - 1 + (k : Int) * (-1)).toNat]?) = l.reverse := by
  have h : ∀ k ∈ List.range l.length, l[((l.length : Int) - 1 + (k : Int) * (-1)).toNat]? = some (l.reverse.getD k .none) := fun k hk => by
    have hk := List.mem_range.mp hk
    have e : ((l.length : Int) - 1 + (k : Int) * (-1)).toNat = l.length - 1 - k := by omega
    rw [e, List.getD_eq_getElem?_getD, List.getElem?_reverse hk, List.getElem?_eq_getElem (by omega)]
    rfl
  rw [fm_same h]
  have e2 : (List.range l.length).filterMap (fun k => some (l.reverse.getD k .none)) = (List.range l.length).map fun k => l.reverse.getD k .none := by
    rw [← List.filterMap_eq_map]
    rfl
  rw [e2]
  refine List.ext_getElem (by rw [List.length_map, List.length_range, List.length_reverse]) fun k h1 h2 => ?_
  rw [List.getElem_map, List.getElem_range, List.getD_eq_getElem?_getD, List.getElem?_eq_getElem h2]
  rfl
theorem back_parts {sl : Addr} {vl vu vs : Value} {n : Nat} {Q : Int × Int × Nat → Shared → Prop} (hs : s.heap.IsSliceOf sl vl vu vs) (pl : IsPart vl none) (pu : IsPart vu none) (ps : IsPart vs (some (-1)))
    (h : Q ((n : Int) - 1, -1, n) s) : wpAny (model prog w) A (Builtin.Slice.sliceApplied (.ref sl) (pure (n : Int))) Q E s := by
  obtain ⟨o, e1, e2, e3⟩ := id hs
  unfold Builtin.Slice.sliceApplied Builtin.Slice.sliceFields
  refine wpAny_bind (wpAny_bind (wpAny_field e1 e3 (x := vl) rfl (wpAny_bind (wpAny_field e1 e3 (x := vu) rfl (wpAny_bind (wpAny_field e1 e3 (x := vs) rfl (wpAny_pure ?_)))))))
  refine wpAny_bind (slicePart_ ps ?_)
  show wpAny _ _ (if ((-1 : Int) == 0) = true then _ else _) _ _ s
  rw [if_neg (by decide)]
  refine wpAny_bind (slicePart_ pl (wpAny_bind (slicePart_ pu (wpAny_bind (wpAny_pure ?_)))))
  show wpAny _ _ (pure ((n : Int) - 1, (-1 : Int), Builtin.Slice.slicePlaces ((n : Int) - 1) (-1) (-1))) _ _ s
  rw [back_places]
  exact wpAny_pure h
theorem back_tup {t sl : Addr} {items : Array Value} {vl vu vs : Value} {Q : Value → Shared → Prop} (ht : IsTup s.heap t items) (hs : s.heap.IsSliceOf sl vl vu vs) (pl : IsPart vl none) (pu : IsPart vu none) (ps : IsPart vs (some (-1)))
    (h : Q (.ref s.heap.objs.size) { s with heap := s.heap.push { cls := .type "tuple", data := .seq items.toList.reverse.toArray } }) (hz : items.size ≤ sizeLine) : wpAny (model prog w) A (getItem (.ref t) (.ref sl)) Q E s := by
  have fits : sizeOk (.seq items.toList.reverse.toArray) := by
    show items.toList.reverse.toArray.size ≤ sizeLine
    rw [List.size_toArray, List.length_reverse, Array.length_toList]
    exact hz
  obtain ⟨o, e1, e2, e3⟩ := id hs
  have ty : s.TypeIs (.ref sl) "slice" := ⟨o, e1, e2⟩
  unfold getItem
  try with_reducible refine wpAny_holding ?_
  first | refine wpAny_bind (wpAny_pure ?_) | skip
  refine wpAny_bind (wpAny_sequenceKey ht.typeIs (by decide) ?_)
  refine wpAny_bind (wpAny_callSpecial?_slot (name := Str.ofString "__getitem__") ht.typeIs PyProof.Rows.slot_tuple_getitem
    (wpAny_call_entry PyProof.Rows.slot_tuple_getitem ht.typeIs PyProof.Rows.entry_tuple_getitem ?_ (PyProof.Rows.args_tuple_getitem _ _)))
  show wpAny _ _ (Builtin.Tuple.tupleItemsOf (.ref t) >>= _) _ _ s
  refine wpAny_bind (tupleItemsOf_ ht ?_)
  refine wpAny_bind (wpAny_typeOf ty ?_)
  rw [if_pos (by decide)]
  refine wpAny_bind (back_parts hs pl pu ps ?_)
  have no : ¬ ((((items.size : Int) - 1) == 0 && (-1 : Int) == 1 && items.size == items.size) = true) := by
    intro q
    rw [Bool.and_eq_true, Bool.and_eq_true] at q
    exact absurd q.1.2 (by decide)
  show wpAny _ _ (if (((items.size : Int) - 1) == 0 && (-1 : Int) == 1 && items.size == items.size) = true then _ else _) _ _ s
  have pk : ((List.range items.size).filterMap fun (k : Nat) => items[((items.size : Int) - 1 + (k : Int) * (-1)).toNat]?).toArray = items.toList.reverse.toArray := by
    have := back_pick items.toList
    simp only [Array.length_toList, Array.getElem?_toList] at this
    rw [this]
  rw [if_neg no, pk]
  first
    | exact wpAny_bind (m := Builtin.Tuple.tupleExact _) (wpAny_newObj_type (wpAny_pure ⟨_, rfl, wpAny_pure h⟩) fits)
    | exact wpAny_bind (m := Builtin.Tuple.tupleExact _) (wpAny_newObj_type (wpAny_bind (wpAny_pure (wpAny_pure ⟨_, rfl, wpAny_pure h⟩))) fits)
    | exact wpAny_bind (wpAny_bind (m := Builtin.Tuple.tupleExact _) (wpAny_newObj_type (wpAny_pure (wpAny_pure ⟨_, rfl, wpAny_pure h⟩)) fits))
    | exact wpAny_bind (wpAny_bind (m := Builtin.Tuple.tupleExact _) (wpAny_newObj_type (wpAny_pure ⟨_, rfl, wpAny_pure h⟩) fits))
end
def tRevT (K : PySem.W.Frag) (te : TE) : TE := fun σ H Q => te σ H fun x H1 => ∃ a xs, x = .ref a ∧ SqT K H1 a xs ∧ ∀ (p : Addr) (o : Obj), H1 p = none → o.dict = none → Q (.ref p) (upd H1 p (.frz o (.tup xs.reverse)))
section
variable {X : Cx}
theorem pe_revT {e : Expr} {te : TE} {k : Nat} {p1 p2 p3 pos : Pos} (he : PE X e te) : PE X (.Subscript e (.Slice none none (some (.UnaryOp .USub (.Constant (.int 1) k p1) p2)) p3) pos) (tRevT X.K te) := by
  refine ⟨fun pins s σ H Q I h => ?_⟩
  refine Subscript_ (thn (he.run pins s σ H _ I h) fun v s1 ⟨x, H1, I1, r1, q1⟩ => ?_)
  obtain ⟨a, xs, rfl, hx, q⟩ := q1
  cases r1
  have back : PO X (some (.UnaryOp .USub (.Constant (.int 1) k p1) p2)) (tPart (tUn (rU fun i => .int (-i)) (tC (.int 1)))) := po_some (pe_un un_neg pe_int)
  refine wpAny_Slice (thn (po_none.run pins s1 σ H1 (fun o G => o = none ∧ G = H1) I1 ⟨rfl, rfl⟩) fun vl s2 ⟨l, G2, I2, pl, z1, z2⟩ => ?_)
  subst z1 z2
  refine thn (po_none.run pins s2 σ G2 (fun o G => o = none ∧ G = G2) I2 ⟨rfl, rfl⟩) fun vu s3 ⟨u, G3, I3, pu, z1, z2⟩ => ?_
  subst z1 z2
  refine thn (back.run pins s3 σ G3 (fun o G => o = some (-1) ∧ G = G3) I3 ⟨1, rfl, -1, rfl, rfl, rfl⟩) fun vs s4 ⟨o, G4, I4, ps, z1, z2⟩ => ?_
  subst z1 z2
  have I5 : Inv X pins σ G4 { s4 with heap := s4.heap.push { cls := .type "slice", data := .fields #[vl, vu, vs] } } := I4.kept (t' := s4.toks) fun b ob q => Heap.get?_push_of_some _ q
  obtain ⟨its, r, ht, hz⟩ := I5.tuple hx
  have hlen := r.length
  show wpAny (model X.prog X.w) X.A (subscriptTail e (.Slice none none (some (.UnaryOp .USub (.Constant (.int 1) k p1) p2)) p3) (.ref a) (.ref s4.heap.objs.size)) (EP X pins σ Q) X.xe { s4 with heap := s4.heap.push { cls := .type "slice", data := .fields #[vl, vu, vs] } }
  refine tail_any (ops := [.ref a, .ref s4.heap.objs.size]) ht.typeIs (PyProof.Rows.slot_tuple_getitem.lookup) ?_ (by with_unfolding_all rfl)
  refine back_tup ht (Heap.IsSliceOf.new _ vl vu vs) pl pu ps ?_ (by rw [List.size_toArray]; omega)
  exact laid_tup (tk := s4.toks) I5 (fun _ _ e => e) r.reverse (by rw [List.length_reverse]; exact hz) q (Nat.le_refl _)
end
theorem dta_rev {K : PySem.W.Frag} {H : Hp} : ∀ {vs : List V} {ds : List PyData}, DtA K H vs ds → DtA K H vs.reverse ds.reverse
  | _, _, .nil => .nil
  | _, _, .cons h t => by
    rw [List.reverse_cons, List.reverse_cons]
    exact (dta_rev t).append (.cons h .nil)
section
variable {K : PySem.W.Frag}
/-- t[::-1], a tuple -/
def sRevT (a : SX K) : SX K := ⟨tRevT K a.te, fun Γ => (a.ev Γ).bind fun x => match x with | .tuple ds => some (.tuple ds.reverse) | _ => none, fun {Γ d} h => by
  obtain ⟨x, h1, h⟩ := bnd h
  cases x with
  | tuple ds =>
    cases h
    intro Hd0 H0 σ Hd H e Q q
    refine a.ok h1 _ _ σ Hd H e _ fun v Hd1 H1 x1 d1 => ?_
    cases d1 with
    | tup k1 k2 => exact ⟨_, _, rfl, ((k1.mono x1.i).sq (K := K)), fun p o hp ho => q _ (upd Hd1 p (.frz o (.tup _))) _ (x1.new hp) (.tup (Tp.new ho) ((dta_rev k2).mono (Ex.new (Evl.fresh_back x1.i hp))))⟩
  | _ => cases h⟩
theorem un65 {A : Around} {k : Nat} (hr : Room k A) : A.units + 65 < cLine := by have := hr.un; omega
/-- the first place of an equal one -/
def idxD (l : List PyData) (y : PyData) : Option Nat := l.findIdx? fun x => PyData.eqv x y
theorem idxD_ok {l : List PyData} {y : PyData} {j : Nat} (h : idxD l y = some j) : ∃ z, l[j]? = some z ∧ PyData.eqv z y = true ∧ ∀ (m : Nat) (z' : PyData), m < j → l[m]? = some z' → PyData.eqv z' y = false := by
  unfold idxD at h
  obtain ⟨h1, h2, h3⟩ := List.findIdx?_eq_some_iff_getElem.mp h
  refine ⟨_, List.getElem?_eq_getElem h1, h2, fun m z hm hz => ?_⟩
  have h4 := h3 m hm
  obtain ⟨h5, rfl⟩ := List.getElem?_eq_some_iff.mp hz
  simpa using h4
/-- xs.index(y), data of any depth -/
def sIdxD (a : SX K) (y : SX K) : SX K := ⟨tBM K "list" (rIndexD K) a.te (tCons y.te tNil), fun Γ => (a.ev Γ).bind fun x => (y.ev Γ).bind fun z => match x with
  | .list ds => if SeqAt.shaped (.list ds) && SeqAt.shaped z then (idxD ds z).bind fun j => some (.int (j : Int)) else none
  | _ => none, fun {Γ d} h => by
  obtain ⟨x, h1, h⟩ := bnd h
  obtain ⟨z, h3, h⟩ := bnd h
  cases x with
  | list ds =>
    have h : (if SeqAt.shaped (.list ds) && SeqAt.shaped z then (idxD ds z).bind fun (j : Nat) => some (PyData.int (j : Int)) else none) = some d := h
    split at h
    · rename_i c
      rw [Bool.and_eq_true] at c
      obtain ⟨j, h4, h⟩ := bnd h
      cases h
      obtain ⟨y', i1, i2, i3⟩ := idxD_ok h4
      intro Hd0 H0 σ Hd H e Q q
      refine a.ok h1 _ _ σ Hd H e _ fun v Hd1 H1 x1 d1 => ?_
      have d1' := d1
      cases d1 with
      | @lst p vs _ g1 g2 =>
        refine ⟨tyV_list (x1.i _ _ g1), ?_⟩
        refine (ea_cons (y.ok h3) ea_nil) _ _ σ Hd1 H1 (e.ext x1) _ fun ws Hd2 H2 x2 d2 => ?_
        cases d2 with
        | cons k1 d2 =>
          cases d2
          have cl := SeqAt.canLay_of_shaped c.1
          have cz := SeqAt.canLay_of_shaped c.2
          exact ⟨p, _, z, ds, j, y', rfl, rfl, Dt.dp cl ((d1'.mono x2.d).mono x2.i), Dt.dp cz (k1.mono x2.i), c.1, c.2, i1, i2, i3, q _ Hd2 H2 (x1.trans x2) (.int _)⟩
    · cases h
  | _ => cases h⟩
/-- list(range(n)) -/
def fRg (a : SX K) : SF K := ⟨tLstRg (tRg1 a.te), fun Γ => (a.ev Γ).bind fun x => match x with | .int n => if 0 ≤ n ∧ n ≤ 100000 then some ((List.range n.toNat).map fun (k : Nat) => .int (k : Int)) else none | _ => none, fun {Γ ds} h => by
  obtain ⟨x, h1, h⟩ := bnd h
  cases x with
  | int n =>
    have h : (if 0 ≤ n ∧ n ≤ 100000 then some ((List.range n.toNat).map fun (k : Nat) => PyData.int (k : Int)) else none) = some ds := h
    split at h
    · rename_i c
      cases h
      intro Hd0 H0 σ Hd H e Q q
      refine a.ok h1 _ _ σ Hd H e _ fun v Hd1 H1 x1 d1 => ?_
      cases d1
      refine ⟨n, rfl, RgOk.of_le (by decide) (by omega) (by decide) c.1, fun p hp => ?_⟩
      refine q p _ Hd1 _ (x1.mut (Evl.fresh_back x1.h hp) (Evl.fresh_back x1.i hp)) (Evl.fresh_back x1.h hp) (Evl.fresh_back x1.i hp) upd_same ?_
      unfold rgV
      rw [Int.sub_zero]
      have : ∀ l : List Nat, DtA K Hd1 (l.map fun (i : Nat) => V.int (0 + (i : Int))) (l.map fun (k : Nat) => PyData.int (k : Int)) := fun l => by
        induction l with
        | nil => exact .nil
        | cons a l ih =>
          refine .cons ?_ ih
          show Dt K Hd1 (V.int (0 + (a : Int))) (.int (a : Int))
          rw [Int.zero_add]
          exact .int _
      exact this _
    · cases h
  | _ => cases h⟩
end
end DL

namespace DL
open PySem PySem.Spec PyProof PyProof.Rows L2
open Evl (Ex)
open RZ HT
/-! ### t * n, n no more than one -/
theorem mul_one (l : Addr) (items : Array Value) (n : Nat) (dd : Option Addr) (sl : Array (Option Value)) (u : Tok) :
    Meets (Builtin.«tuple.__mul__» ⟨[.ref l, .int 1 u], []⟩) (fun _ R s => s.heap.get? l = some { cls := .type "tuple", dict := dd, data := .seq items n, slots := sl } ∧ R (.ok (.ret (Value.ref l))) s) :=
  .of_wp fun prog w A R s h => by
    obtain ⟨hp, g, d, tk, os⟩ := s
    obtain ⟨hl, h⟩ := h
    have f1 := AutoSeq1.idx_int
    wp_walk using wpAny_loadPart' hl
    repeat (first
      | (refine wpAny_ite_false (by decide) ?_; wp_walk using wpAny_loadPart' hl)
      | (refine wpAny_ite_true (by simp) ?_; wp_walk using wpAny_loadPart' hl))
    exact ⟨_, rfl, h⟩
theorem mul_nil (l : Addr) (items : Array Value) (n : Nat) (dd : Option Addr) (sl : Array (Option Value)) (x : Int) (u : Tok) (c0 : (decide (x < -(2 ^ 63)) || decide (x ≥ 2 ^ 63)) = false) (c1 : (items.isEmpty || x == 1) = false) (c2 : (decide (x ≤ 0) || items.isEmpty) = true) :
    Meets (Builtin.«tuple.__mul__» ⟨[.ref l, .int x u], []⟩) (fun _ R s => s.heap.get? l = some { cls := .type "tuple", dict := dd, data := .seq items n, slots := sl } ∧
      R (.ok (.ret (Value.ref s.heap.objs.size))) { s with heap := s.heap.push { cls := Value.type "tuple", data := Data.seq #[] }, toks := s.toks }) :=
  .of_wp fun prog w A R s h => by
    obtain ⟨hp, g, d, tk, os⟩ := s
    obtain ⟨hl, h⟩ := h
    have f1 := AutoSeq1.idx_int
    wp_walk using wpAny_loadPart' hl
    repeat (first
      | (refine wpAny_ite_false (decide_eq_false (by rw [c0]; exact Bool.false_ne_true)) ?_; wp_walk using wpAny_loadPart' hl)
      | (refine wpAny_ite_false (decide_eq_false (by rw [c1]; exact Bool.false_ne_true)) ?_; wp_walk using wpAny_loadPart' hl)
      | (refine wpAny_ite_true (decide_eq_true c2) ?_; wp_walk using wpAny_loadPart' hl))
    exact ⟨_, rfl, h⟩
def rRepA (K : PySem.W.Frag) : R2 := fun x y H Q => ∃ l k xs, x = .ref l ∧ y = .int k ∧ SqT K H l xs ∧ xs ≠ [] ∧ -1000 ≤ k ∧ k ≤ 1000 ∧ xs.length ≤ 1000 ∧
  (k = 1 → Q (.ref l) H) ∧ (k ≤ 0 → ∀ (p : Addr) (o : Obj), H p = none → o.dict = none → Q (.ref p) (upd H p (.frz o (.tup [])))) ∧ (2 ≤ k → ∀ (p : Addr) (o : Obj), H p = none → o.dict = none → Q (.ref p) (upd H p (.frz o (.tup (List.replicate k.toNat xs).flatten))))
section
variable {X : Cx}
theorem op_repA : OpR X (binaryOp .Mult) (rRepA X.K) := by
  intro pins s σ H x y v u Q I rx ry h
  obtain ⟨l, k, xs, rfl, rfl, hT, hne, h0, h1, hz, q1, q2, q3⟩ := h
  cases rx
  obtain ⟨t, rfl⟩ := ry
  obtain ⟨its, r, ⟨⟨cls, dd, data, sl⟩, ho, hc, n, hd⟩, hs⟩ := I.tuple hT
  simp only at hc hd
  subst hc hd
  have hle : its.length = xs.length := r.length.symm
  have hi : its.toArray.isEmpty = false := by
    cases its with
    | nil => exact absurd (List.eq_nil_of_length_eq_zero hle.symm) hne
    | cons a b => rfl
  have road : ∀ {Q' : Value → Shared → Prop}, wpAny (model X.prog X.w) X.A (call (.builtin "tuple.__mul__") [.ref l, .int k t]) Q' X.xe s → wpAny (model X.prog X.w) X.A (binaryOp .Mult (.ref l) (.int k t)) Q' X.xe s := fun hq =>
    wpAny_binaryOp_repeat_ref (T := "tuple") (U := "int") (by decide) ⟨_, ho, rfl⟩ (fun s' => typeIs_int s' k t) noFill_tuple_mul F.fills_int_mul F.slot_int_rmul repeat_tuple F.slot_int_index.lookup
      (call_meets F.slot_int_rmul (typeIs_int s k t) F.entry_int_rmul (F.args_int_rmul_2 _ _) (int_rmul_tuple k t l its.toArray n dd sl) ⟨ho, rfl, ⟨_, ho, rfl⟩, hq⟩)
  by_cases c1 : k = 1
  · subst c1
    refine road (call_meets F.slot_tuple_mul ⟨_, ho, rfl⟩ F.entry_tuple_mul (F.args_tuple_mul_2 _ _) (mul_one l its.toArray n dd sl t) ⟨ho, ?_⟩)
    exact ⟨.ref l, H, I, rfl, q1 rfl⟩
  by_cases c : 2 ≤ k
  · have big : its.length * k ≤ 1000000 := by
      have e1 : (its.length : Int) * k ≤ 1000 * k := Int.mul_le_mul_of_nonneg_right (by omega) (by omega)
      omega
    have nat : (List.replicate k.toNat its).flatten.length ≤ 1000000 := by
      rw [PyProof.Rows.lm_len_rep_flat]
      exact Nat.le_trans (Nat.mul_le_mul (show k.toNat ≤ 1000 by omega) (show its.length ≤ 1000 by omega)) (by decide)
    have sz : sizeLine = 16777216 := by decide
    refine road (call_meets F.slot_tuple_mul ⟨_, ho, rfl⟩ F.entry_tuple_mul (F.args_tuple_mul_2 _ _) (tuple_mulW l its.toArray n dd sl k t ?_ ?_ ?_ ?_ ?_ ?_) ⟨ho, ?_⟩)
    · rw [decide_eq_false (by omega), decide_eq_false (by omega)] <;> rfl
    · rw [hi, Bool.false_or]
      exact beq_eq_false_iff_ne.mpr c1
    · rw [hi, decide_eq_false (by omega)] <;> rfl
    · rw [List.size_toArray]
      omega
    · rw [List.size_toArray]
      unfold Builtin.Tuple.tupleTooMany
      rw [decide_eq_false (by omega)]
    · rw [size_rep, List.size_toArray]
      omega
    · have fin := laid_tup (tk := s.toks) I (fun _ _ e => e) (r.rep k.toNat) (by rw [(r.rep k.toNat).length]; omega) (q3 c) (Nat.le_refl _)
      rw [← size_rep] at fin
      exact fin
  · have ck : k ≤ 0 := by omega
    refine road (call_meets F.slot_tuple_mul ⟨_, ho, rfl⟩ F.entry_tuple_mul (F.args_tuple_mul_2 _ _) (mul_nil l its.toArray n dd sl k t ?_ ?_ ?_) ⟨ho, ?_⟩)
    · rw [decide_eq_false (by omega), decide_eq_false (by omega)] <;> rfl
    · rw [hi, Bool.false_or]
      exact beq_eq_false_iff_ne.mpr c1
    · rw [decide_eq_true ck] <;> rfl
    · exact laid_tup (tk := s.toks) (its := []) I (fun _ _ e => e) .nil (Nat.zero_le _) (q2 ck) (Nat.le_refl _)
theorem repA (K : PySem.W.Frag) (h : X.K = K := by rfl) : OpR X (binaryOp .Mult) (rRepA K) := h ▸ op_repA
theorem inD (K : PySem.W.Frag) (hu : X.A.units + 65 < cLine) (h : X.K = K := by rfl) : OpR X (compareOp .In) (rInD K) := h ▸ op_inD hu
end
section
variable {K : PySem.W.Frag}
/-- t * n, any n -/
def sRepA (a : SX K) (k : SX K) : SX K := ⟨tOp (rRepA K) a.te k.te, fun Γ => (a.ev Γ).bind fun x => (k.ev Γ).bind fun i => match x, i with | .tuple ds, .int i => if -1000 ≤ i ∧ i ≤ 1000 ∧ ds.length ≤ 100 ∧ 1 ≤ ds.length then some (.tuple (List.replicate i.toNat ds).flatten) else none | _, _ => none, fun {Γ d} h => by
  obtain ⟨x, h1, hx⟩ := bnd h
  clear h
  obtain ⟨i, h2, h⟩ := bnd hx
  clear hx
  obtain ⟨ds, i, rfl, rfl⟩ : ∃ ds j, x = .tuple ds ∧ i = .int j := by
    cases x <;> cases i <;> first | exact ⟨_, _, rfl, rfl⟩ | cases h
  have h : (if -1000 ≤ i ∧ i ≤ 1000 ∧ ds.length ≤ 100 ∧ 1 ≤ ds.length then some (PyData.tuple (List.replicate i.toNat ds).flatten) else none) = some d := h
  by_cases c : -1000 ≤ i ∧ i ≤ 1000 ∧ ds.length ≤ 100 ∧ 1 ≤ ds.length
  · rw [if_pos c] at h
    cases h
    intro Hd0 H0 σ Hd H e Q q
    refine a.ok h1 _ _ σ Hd H e _ fun v Hd1 H1 x1 d1 => k.ok h2 _ _ σ Hd1 H1 (e.ext x1) _ fun u Hd2 H2 x2 d2 => ?_
    cases d2
    have d1' := d1.mono x2.d
    cases d1' with
    | @tup l vs _ g1 g2 =>
      have hl := g2.length
      refine ⟨l, i, vs, rfl, rfl, ((g1.mono x2.i).sq (K := K)), fun z => ?_, c.1, c.2.1, by omega, fun z => ?_, fun z p o hp ho => ?_, fun z p o hp ho => ?_⟩
      · subst z
        have := c.2.2.2
        rw [← hl] at this
        exact absurd this (by decide)
      · subst z
        refine q _ Hd2 H2 (x1.trans x2) (.tup g1 ?_)
        show DtA K Hd2 vs (List.replicate 1 ds).flatten
        rw [show (List.replicate 1 ds).flatten = ds by simp]
        exact g2
      · rw [show i.toNat = 0 by omega] at q
        exact q _ (upd Hd2 p (.frz o (.tup []))) _ ((x1.trans x2).new hp) (.tup (Tp.new ho) .nil)
      · have rep : ∀ m : Nat, DtA K Hd2 (List.replicate m vs).flatten (List.replicate m ds).flatten := fun m => by
          induction m with
          | zero => exact .nil
          | succ m ih =>
            rw [List.replicate_succ, List.replicate_succ, List.flatten_cons, List.flatten_cons]
            exact g2.append ih
        exact q _ (upd Hd2 p (.frz o (.tup _))) _ ((x1.trans x2).new hp) (.tup (Tp.new ho) ((rep _).mono (Ex.new (Evl.fresh_back x2.i hp))))
  · rw [if_neg c] at h
    cases h⟩
/-- x in xs, data of any depth -/
def oInD : F2 K (rInD K) := ⟨fun x y => match y with | .list ds => if SeqAt.shaped x && SeqAt.shaped (.list ds) then some (.bool (ds.any fun z => PyData.eqv z x)) else none | _ => none, fun {x y z} e => by
  cases y with
  | list ds =>
    have e : (if SeqAt.shaped x && SeqAt.shaped (.list ds) then some (PyData.bool (ds.any fun z => PyData.eqv z x)) else none) = some z := e
    split at e
    · rename_i c
      rw [Bool.and_eq_true] at c
      cases e
      intro Hd H v w ex d1 d2 Q q
      have cl := SeqAt.canLay_of_shaped c.2
      have cz := SeqAt.canLay_of_shaped c.1
      exact ⟨x, ds, Dt.dp cz (d1.mono ex), Dt.dp cl (d2.mono ex), c.1, c.2, q _ Hd H (.refl ex) (.bl _)⟩
    · cases e
  | _ => cases e⟩
end
end DL

namespace DL
open PySem PySem.Spec PyProof PyProof.Rows L2
open Evl (Ex)
open RZ
/-! ### texts, rows of texts: less -/
theorem ltS_at {A : Around} {s : Shared} (x y : Str) (t u : Tok) : Ob.RcOp .Lt A s (.str x t) (.str y u) (decide (x.cps.toList < y.cps.toList)) := fun _ _ _ _ h => PyProof.Rows.lt_str h
theorem strs_at : ∀ {xs : List Str} {its : List Value}, Vals (xs.map V.str) its → ∀ (j : Nat) (h : j < its.length), ∃ t, its[j] = .str (xs.getD j ⟨#[]⟩) t
  | [], [], _, j, h => by simp at h
  | [], _ :: _, r, _, _ => nomatch r
  | _ :: _, [], r, _, _ => nomatch r
  | x :: xs, u :: us, .cons r rr, 0, _ => by
    obtain ⟨t, rfl⟩ := r
    exact ⟨t, rfl⟩
  | x :: xs, u :: us, .cons r rr, j + 1, h => by
    obtain ⟨t, e⟩ := strs_at rr j (by simpa using h)
    exact ⟨t, by simpa using e⟩
/-- the order of two rows of texts -/
def ltRow (xs ys : List Str) : Bool := Ob.lexAt (fun j => decide (xs.getD j ⟨#[]⟩ = ys.getD j ⟨#[]⟩)) (fun j => decide ((xs.getD j ⟨#[]⟩).cps.toList < (ys.getD j ⟨#[]⟩).cps.toList)) (decide (xs.length < ys.length)) 0 (min xs.length ys.length)
def rLtS : R2 := fun x y H Q => ∃ i j, x = .str i ∧ y = .str j ∧ Q (.bl (decide (i.cps.toList < j.cps.toList))) H
def rLtR (K : PySem.W.Frag) : R2 := fun x y H Q => ∃ (a b : Addr) (xs ys : List Str), x = .ref a ∧ y = .ref b ∧ SqT K H a (xs.map V.str) ∧ SqT K H b (ys.map V.str) ∧ Q (.bl (ltRow xs ys)) H
def rLtA (K : PySem.W.Frag) : R2 := fun x y H Q => rI0 (fun i j => .bl (decide (i < j))) x y H Q ∨ rLtS x y H Q ∨ rLtR K x y H Q
theorem op_ltR {X : Cx} (hu : X.A.units < cLine) : OpR X (compareOp .Lt) (rLtR X.K) := by
  intro pins s σ H x y v u Q I rx ry h
  obtain ⟨a, b, xs, ys, rfl, rfl, ha, hb, q⟩ := h
  cases rx
  cases ry
  obtain ⟨its, r1, p1, _⟩ := I.tuple ha
  obtain ⟨its2, r2, p2, _⟩ := I.tuple hb
  have e1 : its.toArray.size = xs.length := by rw [List.size_toArray, ← r1.length, List.length_map]
  have e2 : its2.toArray.size = ys.length := by rw [List.size_toArray, ← r2.length, List.length_map]
  have R := Ob.RcOp.tuples_lt (A := X.A) (s := s) (e := fun j => decide (xs.getD j ⟨#[]⟩ = ys.getD j ⟨#[]⟩)) (r := fun j => decide ((xs.getD j ⟨#[]⟩).cps.toList < (ys.getD j ⟨#[]⟩).cps.toList)) p1 p2 hu (fun j h1 h2 => by
    obtain ⟨t, et⟩ := strs_at r1 j (by simpa using h1)
    obtain ⟨t', et'⟩ := strs_at r2 j (by simpa using h2)
    have et : its.toArray[j] = .str (xs.getD j ⟨#[]⟩) t := by simpa using et
    have et' : its2.toArray[j] = .str (ys.getD j ⟨#[]⟩) t' := by simpa using et'
    rw [et, et']
    have z : (xs.getD j ⟨#[]⟩ == ys.getD j ⟨#[]⟩) = decide (xs.getD j ⟨#[]⟩ = ys.getD j ⟨#[]⟩) := by
      by_cases q : xs.getD j ⟨#[]⟩ = ys.getD j ⟨#[]⟩
      · rw [decide_eq_true q]; exact beq_iff_eq.mpr q
      · rw [decide_eq_false q]; exact beq_eq_false_iff_ne.mpr q
    rw [← z]
    exact SeqAt.EqAt.str_str _ _ _ _) (fun j h1 h2 _ => by
    obtain ⟨t, et⟩ := strs_at r1 j (by simpa using h1)
    obtain ⟨t', et'⟩ := strs_at r2 j (by simpa using h2)
    have et : its.toArray[j] = .str (xs.getD j ⟨#[]⟩) t := by simpa using et
    have et' : its2.toArray[j] = .str (ys.getD j ⟨#[]⟩) t' := by simpa using et'
    rw [et, et']
    exact ltS_at _ _ _ _)
  rw [e1, e2] at R
  have z : wpAny (model X.prog X.w) X.A (compareOp .Lt (.ref a) (.ref b)) (EP X pins σ Q) X.xe s := R X.prog X.w X.xe (EP X pins σ Q) ⟨.bl _, H, I, rfl, q⟩
  exact z
theorem ltA {X : Cx} (K : PySem.W.Frag) (hu : X.A.units < cLine) (h : X.K = K := by rfl) : OpR X (compareOp .Lt) (rLtA K) := h ▸ op_lt.or (op_lt_str.or (op_ltR hu))
theorem dta_strs {H : Hp} {K : PySem.W.Frag} : ∀ {xs : List Str} {vs : List V}, DtA K H vs (xs.map PyData.str) → vs = xs.map V.str
  | [], _, h => by cases h; rfl
  | x :: xs, _, h => by
    cases h with
    | cons a t =>
      cases a
      rw [dta_strs t]
      rfl
section
variable {K : PySem.W.Frag}
def oLtA : F2 K (rLtA K) := ⟨fun x y => match x, y with
  | .int i, .int j => some (.bool (decide (i < j)))
  | .str i, .str j => some (.bool (decide (i.cps.toList < j.cps.toList)))
  | .tuple ds, .tuple es => (strL ds).bind fun xs => (strL es).bind fun ys => some (.bool (ltRow xs ys))
  | _, _ => none, fun {x y z} e => by
  cases x <;> cases y <;> first | cases e | skip
  · intro Hd H v w ex d1 d2 Q q
    cases d1
    cases d2
    exact .inl ⟨_, _, rfl, rfl, q _ Hd H (.refl ex) (.bl _)⟩
  · intro Hd H v w ex d1 d2 Q q
    cases d1
    cases d2
    exact .inr (.inl ⟨_, _, rfl, rfl, q _ Hd H (.refl ex) (.bl _)⟩)
  · rename_i ds es
    obtain ⟨xs, h1, e⟩ := bnd (f := fun xs => (strL es).bind fun ys => some (PyData.bool (ltRow xs ys))) e
    obtain ⟨ys, h2, e⟩ := bnd e
    cases e
    have := strL_map h1
    have := strL_map h2
    subst ds es
    intro Hd H v w ex d1 d2 Q q
    cases d1 with
    | tup a1 a2 => cases d2 with
      | tup b1 b2 =>
        have z1 := dta_strs a2
        have z2 := dta_strs b2
        subst z1 z2
        exact .inr (.inr ⟨_, _, xs, ys, rfl, rfl, ((a1.mono ex).sq (K := K)), ((b1.mono ex).sq (K := K)), q _ Hd H (.refl ex) (.bl _)⟩)⟩
/-- min(a, b) of two numbers -/
def sMin2 (a b : SX K) : SX K := ⟨tCB (fun xs H Q => ∃ i j, xs = [V.int i, V.int j] ∧ Q (V.int (if j < i then j else i)) H) (tCons a.te (tCons b.te tNil)), fun Γ => (a.ev Γ).bind fun x => (b.ev Γ).bind fun y => match x, y with | .int i, .int j => some (.int (if j < i then j else i)) | _, _ => none, fun {Γ d} h => by
  obtain ⟨x, h1, hx⟩ := bnd h
  clear h
  obtain ⟨y, h2, h⟩ := bnd hx
  clear hx
  cases x <;> cases y <;> first | cases h | skip
  rename_i i j
  intro Hd0 H0 σ Hd H e Q q
  refine (ea_cons (a.ok h1) (ea_cons (b.ok h2) ea_nil)) _ _ σ Hd H e _ fun vs Hd1 H1 x1 d1 => ?_
  cases d1 with
  | cons g1 d1 => cases d1 with
    | cons g2 d1 =>
      cases d1
      cases g1
      cases g2
      exact ⟨i, j, rfl, q _ Hd1 H1 x1 (.int _)⟩⟩
/-- isinstance(x, (T, U)) -/
def sIsi2 (T U : String) (a : SX K) : SX K := ⟨tCB (rIsiT K) (tCons a.te (tCons (tTup (tCons (tC (.ty T)) (tCons (tC (.ty U)) tNil))) tNil)), fun Γ => (a.ev Γ).bind fun x => (kitB (tyD x) T).bind fun b => (kitB (tyD x) U).bind fun c => some (.bool (b || c)), fun {Γ d} h => by
  obtain ⟨x, h1, h⟩ := bnd h
  obtain ⟨b, h2, h⟩ := bnd h
  obtain ⟨c, h3, h⟩ := bnd h
  cases h
  exact ed_isi2 (a.ok h1) h2 h3⟩
end
end DL
namespace DL
open PySem PySem.Spec PyProof PyProof.Rows L2
open Evl (Ex)
open RZ
/-! ### slices of a list or of a tuple -/
def rSlQ (K : PySem.W.Frag) : V → Option Int → Option Int → Hp → VK → Prop := fun x lo hi H Q => rSlL K x lo hi H Q ∨ rSlX K x lo hi H Q
theorem slQ {X : Cx} (K : PySem.W.Frag) (h : X.K = K := by rfl) : SlR X (rSlQ K) := h ▸ sl_list.or (slX X.K rfl)
section
variable {K : PySem.W.Frag}
def sSlQ (a : SX K) (lo hi : SO K) : SX K := ⟨tSl (rSlQ K) a.te lo.to hi.to, fun Γ => (a.ev Γ).bind fun x => (lo.ev Γ).bind fun l => (hi.ev Γ).bind fun u => match x with | .tuple ds => some (.tuple (cutD ds l u)) | .list ds => some (.list (cutD ds l u)) | _ => none, fun {Γ d} h => by
  obtain ⟨x, h1, h⟩ := bnd h
  obtain ⟨l, h2, h⟩ := bnd h
  obtain ⟨u, h3, h⟩ := bnd h
  cases x with
  | tuple ds =>
    cases h
    intro Hd0 H0 σ Hd H e Q q
    refine a.ok h1 _ _ σ Hd H e _ fun v Hd1 H1 x1 d1 => lo.ok h2 _ _ σ Hd1 H1 (e.ext x1) _ fun Hd2 H2 x2 => hi.ok h3 _ _ σ Hd2 H2 ((e.ext x1).ext x2) _ fun Hd3 H3 x3 => ?_
    cases d1 with
    | tup g1 g2 =>
      have x13 := x1.trans (x2.trans x3)
      have xd := x2.d.trans x3.d
      refine .inr ⟨_, _, rfl, (((g1.mono x1.i).mono (x2.trans x3).h).sq (K := K)), fun w => ?_, fun _ p o hp ho => q _ (upd Hd3 p (.frz o (.tup _))) _ (x13.new hp) (.tup (Tp.new ho) ((cut_dt (g2.mono xd)).mono (Ex.new (Evl.fresh_back x13.i hp))))⟩
      rw [g2.length] at w
      rw [cutD_all w] at q
      exact q _ Hd3 H3 x13 (.tup (g1.mono xd) (g2.mono xd))
  | list ds =>
    cases h
    intro Hd0 H0 σ Hd H e Q q
    refine a.ok h1 _ _ σ Hd H e _ fun v Hd1 H1 x1 d1 => lo.ok h2 _ _ σ Hd1 H1 (e.ext x1) _ fun Hd2 H2 x2 => hi.ok h3 _ _ σ Hd2 H2 ((e.ext x1).ext x2) _ fun Hd3 H3 x3 => ?_
    cases d1 with
    | lst g1 g2 =>
      have x13 := x1.trans (x2.trans x3)
      have xd := x2.d.trans x3.d
      exact .inl ⟨_, _, rfl, SqL.of ((x2.trans x3).h _ _ (x1.i _ _ g1)), fun p hp => q _ (upd Hd3 p _) _ (x13.new hp) (.lst upd_same ((cut_dt (g2.mono xd)).mono (Ex.new (Evl.fresh_back x13.i hp))))⟩
  | _ => cases h⟩
end
end DL

namespace DL
open PySem PySem.Spec PyProof PyProof.Rows L2
open PySem.Sem (wp)
open PySem.AutoSeq1 (wpAny_loadPart')
open Evl (Ex)
open RZ
/-! ### enumerate(t), a tuple -/
section
variable {prog : Program} {w : World} {A : Around} {E : Value → Shared → Prop} {s : Shared}
theorem en_one {e it l : Addr} {i : Nat} {items : Array Value} {x old : Value} {S1 : Nat → Heap → Prop} {C1 : Heap → Prop} {Q : Value → Shared → Prop} (p : Sd prog w it l items S1 C1)
    (en : IsEnum s.heap e it i old) (st : S1 i s.heap) (c : C1 s.heap) (hx : items[i]? = some x) (ne : e ≠ it)
    (hQ : ∀ g, IsEnumOut g e it ((i : Int) + 1) x s.heap.objs.size → S1 (i + 1) g → g.get? s.heap.objs.size = some { cls := .type "tuple", data := .seq #[.int i s.toks, x] } → g.objs.size = s.heap.objs.size + 1 →
      (∀ b o, b ≠ e → b ≠ it → s.heap.get? b = some o → g.get? b = some o) → Q (.ref s.heap.objs.size) { s with heap := g, toks := s.toks + 1 }) :
    wpAny (model prog w) A (Builtin.«enumerate.__next__» ⟨[.ref e], []⟩) (fun fin s' => ∃ v, fin = .done (.ret v) ∧ Q v s') E s := by
  obtain ⟨hp, gn, dr, tk, os⟩ := s
  show wpAny _ _ (field (.ref e) 2 >>= _) _ _ _
  refine wpAny_bind (wpAny_field en rfl (x := .ref it) rfl ?_)
  refine wpAny_bind (p.item st c hx fun g1 st1 u1 => ?_)
  replace u1 : Heap.SameBut it hp g1 := u1
  have n1 : IsEnum g1 e it i old := (u1.2 e ne).trans en
  show wpAny _ _ (field (.ref e) 3 >>= _) _ _ ⟨g1, gn, dr, tk, os⟩
  refine wpAny_bind (wpAny_field n1 rfl (x := rawInt i) rfl ?_)
  show wpAny _ _ (field (.ref e) 4 >>= _) _ _ ⟨g1, gn, dr, tk, os⟩
  refine wpAny_bind (wpAny_field n1 rfl (x := .none) rfl ?_)
  show wpAny _ _ (mkInt i >>= _) _ _ ⟨g1, gn, dr, tk, os⟩
  refine wpAny_bind (wpAny_mkInt ?_)
  show wpAny _ _ (setField (.ref e) 3 (rawInt ((i : Int) + 1)) >>= _) _ _ ⟨g1, gn, dr, tk + 1, os⟩
  refine wpAny_bind (wpAny_setField_rec n1 (by simp) fun g2 n2 u2 => ?_)
  replace u2 : Heap.SameBut e g1 g2 := u2
  replace n2 : IsEnum g2 e it ((i : Int) + 1) old := n2
  show wpAny _ _ (setField (.ref e) 4 .none >>= _) _ _ ⟨g2, gn, dr, tk + 1, os⟩
  refine wpAny_bind (wpAny_setField_rec n2 (by simp) fun g3 n3 u3 => ?_)
  replace u3 : Heap.SameBut e g2 g3 := u3
  replace n3 : IsEnum g3 e it ((i : Int) + 1) old := n3
  show wpAny _ _ (newTuple [.int i tk, x] >>= _) _ _ ⟨g3, gn, dr, tk + 1, os⟩
  refine wpAny_bind (wpAny_newTuple ?_)
  have n4 : IsEnum (g3.push { cls := .type "tuple", data := .seq #[.int i tk, x] }) e it ((i : Int) + 1) old := Heap.get?_push_of_some _ n3
  generalize eg : g3.push { cls := .type "tuple", data := .seq #[.int i tk, x] } = g4 at n4
  have sz : g3.objs.size = hp.objs.size := by rw [u3.1, u2.1, u1.1]
  have le : e < hp.objs.size := Heap.lt_size en
  have t4 : g4.get? hp.objs.size = some { cls := .type "tuple", data := .seq #[.int i tk, x] } := by rw [← eg, ← sz]; exact Heap.get?_push_size _ rfl
  have s4 : g4.objs.size = hp.objs.size + 1 := by rw [← eg, Heap.size_push, sz]
  have k4 : ∀ b o, b ≠ e → b ≠ it → hp.get? b = some o → g4.get? b = some o := fun b o h1 h2 hb => by
    rw [← eg]; exact Heap.get?_push_of_some _ (u3.extBut b o h1 (u2.extBut b o h1 (u1.extBut b o h2 hb)))
  have st4 : S1 (i + 1) g4 := p.keep st1 fun o hb => by
    rw [← eg]; exact Heap.get?_push_of_some _ (u3.extBut _ o ne.symm (u2.extBut _ o ne.symm hb))
  show wpAny _ _ (Builtin.SmallTypes.ownedTupleIsFree (.ref e) >>= _) _ _ ⟨g4, gn, dr, tk + 1, os⟩
  rw [sz]
  clear eg n3 u3 n2 u2 n1 u1 st1 sz g3 g2 g1
  refine wpAny_bind ?_
  unfold Builtin.SmallTypes.ownedTupleIsFree
  refine wpAny_bind (wpAny_field n4 rfl (x := .none) rfl (wpAny_pure ?_))
  simp only [if_true]
  refine wpAny_bind (wpAny_rule ?_)
  refine wpAny_bind (wpAny_field n4 rfl (x := old) rfl ?_)
  refine wpAny_bind (wpAny_setField_rec n4 (by simp) fun g5 n5 u5 => ?_)
  replace u5 : Heap.SameBut e g4 g5 := u5
  replace n5 : IsEnum g5 e it ((i : Int) + 1) x := n5
  show wpAny _ _ (Builtin.SmallTypes.ownedTupleHandOut (.ref e) (.ref hp.objs.size) >>= _) _ _ ⟨g5, gn, dr, tk + 1, os⟩
  refine wpAny_bind ?_
  unfold Builtin.SmallTypes.ownedTupleHandOut
  refine wpAny_bind (wpAny_setField_rec n5 (by simp) fun g6 n6 u6 => ?_)
  replace u6 : Heap.SameBut e g5 g6 := u6
  replace n6 : IsEnumOut g6 e it ((i : Int) + 1) x hp.objs.size := n6
  refine wpAny_setField_rec n6 (by simp) fun g7 n7 u7 => ?_
  replace u7 : Heap.SameBut e g6 g7 := u7
  replace n7 : IsEnumOut g7 e it ((i : Int) + 1) x hp.objs.size := n7
  have up : ∀ b o, b ≠ e → g4.get? b = some o → g7.get? b = some o := fun b o h1 hb => u7.extBut b o h1 (u6.extBut b o h1 (u5.extBut b o h1 hb))
  exact wpAny_bind (wpAny_letGo (wpAny_pure ⟨_, rfl, hQ g7 n7 (p.keep st4 fun o => up _ o ne.symm) (up _ _ (Nat.ne_of_gt le) t4) (by rw [u7.1, u6.1, u5.1, s4]) fun b o h1 h2 hb => up b o h1 (k4 b o h1 h2 hb)⟩))
theorem en_nx {e it l : Addr} {i : Nat} {items : Array Value} {x old : Value} {S1 : Nat → Heap → Prop} {C1 : Heap → Prop} {Q : Option Value → Shared → Prop} (p : Sd prog w it l items S1 C1)
    (en : IsEnum s.heap e it i old) (st : S1 i s.heap) (c : C1 s.heap) (hx : items[i]? = some x) (ne : e ≠ it)
    (hQ : ∀ g, IsEnumOut g e it ((i : Int) + 1) x s.heap.objs.size → S1 (i + 1) g → g.get? s.heap.objs.size = some { cls := .type "tuple", data := .seq #[.int i s.toks, x] } → g.objs.size = s.heap.objs.size + 1 →
      (∀ b o, b ≠ e → b ≠ it → s.heap.get? b = some o → g.get? b = some o) → Q (some (.ref s.heap.objs.size)) { s with heap := g, toks := s.toks + 1 }) :
    wpAny (model prog w) A (pyNext (.ref e)) Q E s := by
  have ty : s.TypeIs (.ref e) "enumerate" := ⟨_, en, rfl⟩
  unfold pyNext
  exact wpAny_bind (wpAny_attempt (wpAny_callSpecial?_slot (name := Str.ofString "__next__") ty F.slot_enumerate_next
    (wpAny_call_entry F.slot_enumerate_next ty F.entry_enumerate_next
      (en_one p en st c hx ne fun g a1 a2 a3 a4 a5 => wpAny_pure (hQ g a1 a2 a3 a4 a5)) (F.args_enumerate_next_1 _))))
theorem en_no {e it l : Addr} {i : Nat} {items : Array Value} {old : Value} {S1 : Nat → Heap → Prop} {C1 : Heap → Prop} {Q : Option Value → Shared → Prop} (hh : A.handled = none) (p : Sd prog w it l items S1 C1)
    (en : IsEnum s.heap e it i old) (st : S1 i s.heap) (c : C1 s.heap) (hx : items[i]? = none)
    (hQ : ∀ g, Heap.ExtBut it s.heap g → Q none { s with heap := g }) : wpAny (model prog w) A (pyNext (.ref e)) Q E s := by
  have ty : s.TypeIs (.ref e) "enumerate" := ⟨_, en, rfl⟩
  unfold pyNext
  refine wpAny_bind (wpAny_attempt (wpAny_callSpecial?_slot (name := Str.ofString "__next__") ty F.slot_enumerate_next
    (wpAny_call_entry F.slot_enumerate_next ty F.entry_enumerate_next ?_ (F.args_enumerate_next_1 _))))
  show wpAny _ _ (field (.ref e) 2 >>= _) _ _ _
  refine wpAny_bind (wpAny_field en rfl (x := .ref it) rfl ?_)
  refine wpAny_bind (p.fin hh st c hx fun g x kp hx' => ?_)
  obtain ⟨o, e1, e2⟩ := hx'
  refine wpAny_bind (wpAny_isInstance (T := "StopIteration") (b := true) ⟨o, e1, e2⟩ isSubtype_stop ?_)
  exact wpAny_pure (hQ _ kp)
theorem en_newT (l : Addr) (items : Array Value) :
    Meets (Builtin.«enumerate.__new__» ⟨[.type "enumerate", .ref l], []⟩) (fun _ R s => s.heap.IsTuple l items ∧
      R (.ok (.ret (.ref (s.heap.push { cls := .type "tuple_iterator", data := .fields #[.ref l, .int 0 0] }).objs.size)))
        { s with heap := (s.heap.push { cls := .type "tuple_iterator", data := .fields #[.ref l, .int 0 0] }).push { cls := .type "enumerate", data := .fields #[.none, .bool false, .ref s.heap.objs.size, rawInt 0, .none, .none] } }) :=
  .of_wp fun prog w A R s h => by
    obtain ⟨hp, g, d, tk, os⟩ := s
    obtain ⟨hl, h⟩ := h
    have hsub := sub_enumerate
    have hL : Heap.IsTuple (Shared.heap ⟨hp, g, d, tk, os⟩) l items := hl
    wp_walk using wpAny_pyIter_tuple hL
    refine wpAny_stack_any fun st => wpAny_pure ?_
    split
    · rename_i c _ _ _ _ _
      cases (c == Value.type "enumerate")
      · wp_walk using wpAny_pyIter_tuple hL
        exact ⟨_, rfl, h⟩
      · wp_walk using wpAny_pyIter_tuple hL
        exact ⟨_, rfl, h⟩
    · wp_walk using wpAny_pyIter_tuple hL
      exact ⟨_, rfl, h⟩
theorem en_call {l : Addr} {items : Array Value} {Q : Value → Shared → Prop} (hl : s.heap.IsTuple l items)
    (h : ∀ g, IsEnum g (s.heap.objs.size + 1) s.heap.objs.size 0 .none → g.IsTupleIter s.heap.objs.size l 0 → g.objs.size = s.heap.objs.size + 2 →
      (∀ b o, s.heap.get? b = some o → g.get? b = some o) → Q (.ref (s.heap.objs.size + 1)) { s with heap := g }) :
    wpAny (model prog w) A (call (.type "enumerate") [.ref l]) Q E s := by
  refine callType_new F.called_enumerate (by decide) (F.typeCall_enumerate_1 _) (F.newCall_enumerate_1 _) (fun obj => F.args_object_init_2 obj _) F.entry_enumerate_new
    (en_newT l items) ⟨hl, ?_⟩
  have hz : (s.heap.push { cls := .type "tuple_iterator", data := .fields #[.ref l, .int 0 0] }).objs.size = s.heap.objs.size + 1 := Heap.size_push ..
  show _ ∧ _
  rw [hz]
  have en : IsEnum ((s.heap.push { cls := .type "tuple_iterator", data := .fields #[.ref l, .int 0 0] }).push { cls := .type "enumerate", data := .fields #[.none, .bool false, .ref s.heap.objs.size, rawInt 0, .none, .none] }) (s.heap.objs.size + 1) s.heap.objs.size 0 .none := by
    have := Heap.get?_push_size (s.heap.push { cls := .type "tuple_iterator", data := .fields #[.ref l, .int 0 0] })
      (o := { cls := .type "enumerate", data := .fields #[.none, .bool false, .ref s.heap.objs.size, rawInt 0, .none, .none] }) rfl
    rw [hz] at this; exact this
  refine ⟨⟨_, en, rfl⟩, h _ en ⟨_, Heap.get?_push_of_some _ (Heap.get?_push_size _ rfl), rfl, rfl⟩ (by rw [Heap.size_push, hz]) fun b o x => Heap.get?_push_of_some _ (Heap.get?_push_of_some _ x)⟩
end
end DL

namespace DL
open PySem PySem.Spec PyProof PyProof.Rows L2
open Evl (Ex)
open RZ
/-- the tuple at a as it stands at each turn, each item in a new pair -/
def IteT (K : PySem.W.Frag) (a : Addr) : It :=
  ⟨fun i H => ∃ (xs : List V) (x : V), SqT K H a xs ∧ xs[i]? = some x, fun i H v H' => ∃ T x, v = .ref T ∧ H T = none ∧ (∃ o : Obj, o.dict = none ∧ H' = upd H T (.frz o (.tup [.int (i : Nat), x]))) ∧ ∀ xs, SqT K H a xs → xs[i]? = some x, fun i H => ∃ xs : List V, SqT K H a xs ∧ xs.length ≤ i⟩
theorem turn_enT {P : Program} {w : World} {K : PySem.W.Frag} {elts : List Expr} {kk : Nat} {tpos : Pos} (a e it : Addr) :
    Turn P w K (.Tuple elts kk tpos) (IteT K a) [e, it] e (fun i h => (∃ old, IsEnum h e it ((i : Nat) : Int) old) ∧ h.IsTupleIter it a i ∧ e ≠ it) where
  mem := by simp
  obj := fun i h st b hb => by
    obtain ⟨⟨old, he⟩, ⟨o, ho, _, hd⟩, _⟩ := st
    have e' : b = e ∨ b = it := by simpa using hb
    rcases e' with z | z
    · rw [z]; exact ⟨_, he, fun v q => nomatch q⟩
    · rw [z]; exact ⟨o, ho, fun v q => by rw [hd] at q; cases q⟩
  keep := fun i h h' st k => let ⟨⟨old, he⟩, ⟨o, ho, r⟩, hne⟩ := st; ⟨⟨old, k e (by simp) _ he⟩, ⟨o, k it (by simp) o ho, r⟩, hne⟩
  item := by
    intro X hP hw hK hc i pins s σ H E I hf st hg
    subst hP hw hK
    obtain ⟨⟨old, en⟩, hit, ne⟩ := st
    obtain ⟨xs, x, hq, hx⟩ := hg
    obtain ⟨its, rv, p, hz⟩ := I.tuple hq
    obtain ⟨u, hu, ru⟩ := rv.get hx
    have le : e < s.heap.objs.size := Heap.lt_size en
    have li : it < s.heap.objs.size := by obtain ⟨_, q, _⟩ := hit; exact Heap.lt_size q
    refine en_nx (Sd.tup (xs := its.toArray)) en hit p (x := u) (by simpa using hu) ne fun g ho hit' hT sz kp => ?_
    refine ⟨_, rfl, wpAny_letOwnedTupleGo_enum (s := { s with heap := g, toks := s.toks + 1 }) ho fun g2 en2 sb => ?_⟩
    have hT2 : g2.get? s.heap.objs.size = some { cls := .type "tuple", data := .seq #[.int i s.toks, u] } := (sb.2 _ (Nat.ne_of_gt le)).trans hT
    obtain ⟨ob, b1, b2, b3, b4⟩ : ∃ ob : Obj, g2.get? s.heap.objs.size = some ob ∧ ob.dict = none ∧ ob.cls = .type "tuple" ∧ ∃ m, ob.data = .seq #[.int i s.toks, u] m := ⟨_, hT2, rfl, rfl, _, rfl⟩
    have new : ObjOk X.prog X.w (upd H s.heap.objs.size (.frz ob (.tup [.int (i : Nat), x]))) g2 s.heap.objs.size (.frz ob (.tup [.int (i : Nat), x])) :=
      ⟨b1, by show 2 ≤ sizeLine; decide, [.int i s.toks, u], .cons ⟨_, rfl⟩ (.cons ru .nil), ⟨_, b1, b3, b4⟩⟩
    have I1 : Inv X pins σ (upd H s.heap.objs.size (.frz ob (.tup [.int (i : Nat), x]))) { s with heap := g2, toks := s.toks + 1 } :=
      I.turnedNew (ch := [e, it]) (fun b ob hb q => (sb.2 b (fun z => hb (by simp [z]))).trans (kp b ob (fun z => hb (by simp [z])) (fun z => hb (by simp [z])) q)) hf (Nat.le_refl _) new
    refine ⟨.ref s.heap.objs.size, _, I1, rfl, ⟨_, x, rfl, I.hok.fresh (Nat.le_refl _), ⟨ob, b2, rfl⟩, fun ys hy => by rw [I.tuple_inj hy hq]; exact hx⟩, ⟨⟨u, ?_⟩, ?_, ne⟩, fun b hb => ?_⟩
    · have e1 : ((i + 1 : Nat) : Int) = (i : Int) + 1 := by omega
      rw [e1]; exact en2
    · obtain ⟨o, q1, q2⟩ := hit'
      exact ⟨o, (sb.2 it (Ne.symm ne)).trans q1, q2⟩
    · have hb' : b < s.heap.objs.size := by
        have e' : b = e ∨ b = it := by simpa using hb
        rcases e' with z | z
        · rw [z]; exact le
        · rw [z]; exact li
      rw [upd_ne (Nat.ne_of_lt hb')]
      exact (hf b hb).1
  done := by
    intro X hP hw hK hc i pins s σ H E I hf st hg
    subst hP hw hK
    obtain ⟨⟨old, en⟩, hit, ne⟩ := st
    obtain ⟨xs, hq, hx⟩ := hg
    obtain ⟨its, rv, p, hz⟩ := I.tuple hq
    obtain ⟨f0, f1, f2, f3, f4, f5⟩ := hf it (by simp)
    have hl := rv.length
    exact en_no (I.ok.hd hc) (Sd.tup (xs := its.toArray)) en hit p (by simp; omega) fun g kp => ⟨rfl, I.turned (t' := s.toks) (fun b o hb q => kp b o hb q) f0 f1 f3 f4 f5⟩
  self := fun A i s Q E st h => let ⟨⟨_, he⟩, _⟩ := st; wpAny_pyIter_enum he h
/-- the list at a as it stands at each turn, each item in a new pair -/
def IteL (K : PySem.W.Frag) (a : Addr) : It :=
  ⟨fun i H => ∃ (xs : List V) (x : V), SqL K H a xs ∧ xs[i]? = some x, fun i H v H' => ∃ T x, v = .ref T ∧ H T = none ∧ (∃ o : Obj, o.dict = none ∧ H' = upd H T (.frz o (.tup [.int (i : Nat), x]))) ∧ ∀ xs, SqL K H a xs → xs[i]? = some x, fun i H => ∃ xs : List V, SqL K H a xs ∧ xs.length ≤ i⟩
theorem turn_enL {P : Program} {w : World} {K : PySem.W.Frag} {elts : List Expr} {kk : Nat} {tpos : Pos} (a e it : Addr) :
    Turn P w K (.Tuple elts kk tpos) (IteL K a) [e, it] e (fun i h => (∃ old, IsEnum h e it ((i : Nat) : Int) old) ∧ h.IsListIter it a i ∧ e ≠ it) where
  mem := by simp
  obj := fun i h st b hb => by
    obtain ⟨⟨old, he⟩, ⟨o, ho, _, hd⟩, _⟩ := st
    have e' : b = e ∨ b = it := by simpa using hb
    rcases e' with z | z
    · rw [z]; exact ⟨_, he, fun v q => nomatch q⟩
    · rw [z]; exact ⟨o, ho, fun v q => by rw [hd] at q; cases q⟩
  keep := fun i h h' st k => let ⟨⟨old, he⟩, ⟨o, ho, r⟩, hne⟩ := st; ⟨⟨old, k e (by simp) _ he⟩, ⟨o, k it (by simp) o ho, r⟩, hne⟩
  item := by
    intro X hP hw hK hc i pins s σ H E I hf st hg
    subst hP hw hK
    obtain ⟨⟨old, en⟩, hit, ne⟩ := st
    obtain ⟨xs, x, hq, hx⟩ := hg
    obtain ⟨its, rv, p, hz⟩ := I.list hq
    obtain ⟨u, hu, ru⟩ := rv.get hx
    have le : e < s.heap.objs.size := Heap.lt_size en
    have li : it < s.heap.objs.size := by obtain ⟨_, q, _⟩ := hit; exact Heap.lt_size q
    refine en_nx (Sd.list (xs := its.toArray)) en hit p.isList (x := u) (by simpa using hu) ne fun g ho hit' hT sz kp => ?_
    refine ⟨_, rfl, wpAny_letOwnedTupleGo_enum (s := { s with heap := g, toks := s.toks + 1 }) ho fun g2 en2 sb => ?_⟩
    have hT2 : g2.get? s.heap.objs.size = some { cls := .type "tuple", data := .seq #[.int i s.toks, u] } := (sb.2 _ (Nat.ne_of_gt le)).trans hT
    obtain ⟨ob, b1, b2, b3, b4⟩ : ∃ ob : Obj, g2.get? s.heap.objs.size = some ob ∧ ob.dict = none ∧ ob.cls = .type "tuple" ∧ ∃ m, ob.data = .seq #[.int i s.toks, u] m := ⟨_, hT2, rfl, rfl, _, rfl⟩
    have new : ObjOk X.prog X.w (upd H s.heap.objs.size (.frz ob (.tup [.int (i : Nat), x]))) g2 s.heap.objs.size (.frz ob (.tup [.int (i : Nat), x])) :=
      ⟨b1, by show 2 ≤ sizeLine; decide, [.int i s.toks, u], .cons ⟨_, rfl⟩ (.cons ru .nil), ⟨_, b1, b3, b4⟩⟩
    have I1 : Inv X pins σ (upd H s.heap.objs.size (.frz ob (.tup [.int (i : Nat), x]))) { s with heap := g2, toks := s.toks + 1 } :=
      I.turnedNew (ch := [e, it]) (fun b ob hb q => (sb.2 b (fun z => hb (by simp [z]))).trans (kp b ob (fun z => hb (by simp [z])) (fun z => hb (by simp [z])) q)) hf (Nat.le_refl _) new
    refine ⟨.ref s.heap.objs.size, _, I1, rfl, ⟨_, x, rfl, I.hok.fresh (Nat.le_refl _), ⟨ob, b2, rfl⟩, fun ys hy => by rw [I.list_inj hy hq]; exact hx⟩, ⟨⟨u, ?_⟩, ?_, ne⟩, fun b hb => ?_⟩
    · have e1 : ((i + 1 : Nat) : Int) = (i : Int) + 1 := by omega
      rw [e1]; exact en2
    · obtain ⟨o, q1, q2⟩ := hit'
      exact ⟨o, (sb.2 it (Ne.symm ne)).trans q1, q2⟩
    · have hb' : b < s.heap.objs.size := by
        have e' : b = e ∨ b = it := by simpa using hb
        rcases e' with z | z
        · rw [z]; exact le
        · rw [z]; exact li
      rw [upd_ne (Nat.ne_of_lt hb')]
      exact (hf b hb).1
  done := by
    intro X hP hw hK hc i pins s σ H E I hf st hg
    subst hP hw hK
    obtain ⟨⟨old, en⟩, hit, ne⟩ := st
    obtain ⟨xs, hq, hx⟩ := hg
    obtain ⟨its, rv, p, hz⟩ := I.list hq
    obtain ⟨f0, f1, f2, f3, f4, f5⟩ := hf it (by simp)
    have hl := rv.length
    exact en_no (I.ok.hd hc) (Sd.list (xs := its.toArray)) en hit p.isList (by simp; omega) fun g kp => ⟨rfl, I.turned (t' := s.toks) (fun b o hb q => kp b o hb q) f0 f1 f3 f4 f5⟩
  self := fun A i s Q E st h => let ⟨⟨_, he⟩, _⟩ := st; wpAny_pyIter_enum he h
/-- enumerate(x), x a list or a tuple -/
def iEnumQ (K : PySem.W.Frag) (ta : TA) : TI := fun σ H R => ta σ H fun vs H1 => ∃ a xs, vs = [.ref a] ∧ ((SqL K H1 a xs ∧ R (IteL K a) H1) ∨ (SqT K H1 a xs ∧ R (IteT K a) H1))
theorem pi_enumQ {X : Cx} {e : Expr} {ta : TA} {p pos tpos : Pos} {elts : List Expr} {kk : Nat} (hg : Gl X "enumerate") (hm : X.mg "enumerate" = none) (ha : PA X [e] ta) (hs : starEach [e] X.env = [(false, eval e X.env)] := by rfl) :
    PI X (.Tuple elts kk tpos) (.Call (.Name "enumerate" p) [e] [] pos) (iEnumQ X.K ta) := by
  refine ⟨fun pins s σ H R I h => ?_⟩
  refine Call_ (ld_blt I hg hm boot_enumerate (PyProof.Rows.callWith_type1 (thn (ha.run pos pins s σ H _ I h) fun us s1 ⟨vs, H1, I1, r1, q1⟩ => ?_) hs rfl))
  obtain ⟨a, xs, ex, q1⟩ := q1
  subst ex
  cases r1 with
  | cons r rr =>
    cases rr
    cases r
    have fr : ∀ b, b ∈ [s1.heap.objs.size + 1, s1.heap.objs.size] → FpOk X pins H1 b := fun b hb => by
      have e' : b = s1.heap.objs.size + 1 ∨ b = s1.heap.objs.size := by simpa using hb
      have hle : s1.heap.objs.size ≤ b := by
        rcases e' with z | z
        · rw [z]; exact Nat.le_add_right _ _
        · rw [z]; exact Nat.le_refl _
      exact I1.fpOk hle (I1.hok.fresh hle)
    rcases q1 with ⟨hq, q⟩ | ⟨hq, q⟩
    · obtain ⟨its, rv, p', hz⟩ := I1.list hq
      refine call_enumerate_list p'.isList fun g he hit hsz hk => wpAny_pyIter_enum he ?_
      have I2 : Inv X pins σ H1 { s1 with heap := g } := I1.kept (t' := s1.toks) hk
      exact ⟨s1.heap.objs.size + 1, [s1.heap.objs.size + 1, s1.heap.objs.size], _, _, H1, rfl, I2, turn_enL a (s1.heap.objs.size + 1) s1.heap.objs.size, ⟨⟨.none, he⟩, hit, Nat.succ_ne_self _⟩, fr, q⟩
    · obtain ⟨its, rv, p', hz⟩ := I1.tuple hq
      refine en_call (show s1.heap.IsTuple a its.toArray from p') fun g he hit hsz hk => wpAny_pyIter_enum he ?_
      have I2 : Inv X pins σ H1 { s1 with heap := g } := I1.kept (t' := s1.toks) hk
      exact ⟨s1.heap.objs.size + 1, [s1.heap.objs.size + 1, s1.heap.objs.size], _, _, H1, rfl, I2, turn_enT a (s1.heap.objs.size + 1) s1.heap.objs.size, ⟨⟨.none, he⟩, hit, Nat.succ_ne_self _⟩, fr, q⟩
section
variable {K : PySem.W.Frag} {Γ : List G} {xs : List PyData}
theorem ei_enumQL {ta : TA} (h : EA K ta Γ [.list xs]) : EI K (iEnumQ K ta) Γ (enumD xs) := fun _ _ σ Hd H e R q => h _ _ σ Hd H e _ fun v Hd1 H1 x1 d1 => by
  cases d1 with
  | cons d1 d2 =>
    cases d2
    cases d1 with
    | lst h1 h2 =>
      refine ⟨_, _, rfl, .inl ⟨SqL.of (x1.i _ _ h1), q _ Hd1 H1 x1 fun Hd' H' e1 e2 => ?_⟩⟩
      have hl := SqL.of (K := K) (e2 _ _ (e1 _ _ h1))
      refine ⟨⟨_, hl, ?_⟩, fun i d hd => ?_⟩
      · rw [h2.length]
        unfold enumD
        rw [zipD_len, List.length_map, List.length_range]
        omega
      · obtain ⟨x, y, hx, hy, rfl⟩ := zipD_get hd
        obtain ⟨w, g3, g4⟩ := h2.got hy
        have ex : x = .int (i : Int) := by
          rw [List.getElem?_map] at hx
          have hi : i < xs.length := (List.getElem?_eq_some_iff.mp hy).1
          rw [List.getElem?_range hi] at hx
          exact (Option.some.inj hx).symm
        subst ex
        refine ⟨⟨_, w, hl, g3⟩, fun x H'' ⟨T, x', ex, nT, ⟨o, ho, eH⟩, q1⟩ => ?_⟩
        have z1 := q1 _ hl
        rw [g3] at z1
        cases z1
        subst ex eH
        have nT' := Evl.fresh_back e2 nT
        exact ⟨upd Hd' T (.frz o (.tup [.int (i : Nat), w])), (Ext.refl e2).new nT, .tup (Tp.new ho) (.cons (.int _) (.cons ((g4.mono e1).mono (Ex.new nT')) .nil))⟩
theorem ei_enumQT {ta : TA} (h : EA K ta Γ [.tuple xs]) : EI K (iEnumQ K ta) Γ (enumD xs) := fun _ _ σ Hd H e R q => h _ _ σ Hd H e _ fun v Hd1 H1 x1 d1 => by
  cases d1 with
  | cons d1 d2 =>
    cases d2
    cases d1 with
    | tup h1 h2 =>
      refine ⟨_, _, rfl, .inr ⟨((h1.mono x1.i).sq (K := K)), q _ Hd1 H1 x1 fun Hd' H' e1 e2 => ?_⟩⟩
      have hl := (((h1.mono e1).mono e2).sq (K := K))
      refine ⟨⟨_, hl, ?_⟩, fun i d hd => ?_⟩
      · rw [h2.length]
        unfold enumD
        rw [zipD_len, List.length_map, List.length_range]
        omega
      · obtain ⟨x, y, hx, hy, rfl⟩ := zipD_get hd
        obtain ⟨w, g3, g4⟩ := h2.got hy
        have ex : x = .int (i : Int) := by
          rw [List.getElem?_map] at hx
          have hi : i < xs.length := (List.getElem?_eq_some_iff.mp hy).1
          rw [List.getElem?_range hi] at hx
          exact (Option.some.inj hx).symm
        subst ex
        refine ⟨⟨_, w, hl, g3⟩, fun x H'' ⟨T, x', ex, nT, ⟨o, ho, eH⟩, q1⟩ => ?_⟩
        have z1 := q1 _ hl
        rw [g3] at z1
        cases z1
        subst ex eH
        have nT' := Evl.fresh_back e2 nT
        exact ⟨upd Hd' T (.frz o (.tup [.int (i : Nat), w])), (Ext.refl e2).new nT, .tup (Tp.new ho) (.cons (.int _) (.cons ((g4.mono e1).mono (Ex.new nT')) .nil))⟩
def iEnQ (a : SA K) : SI K := ⟨iEnumQ K a.ta, fun Γ => (a.ev Γ).bind fun x => match x with | [.list xs] => some (enumD xs) | [.tuple xs] => some (enumD xs) | _ => none, fun {Γ ds} h => by
  obtain ⟨x, h1, h⟩ := bnd h
  split at h
  · cases h; exact ei_enumQL (a.ok h1)
  · cases h; exact ei_enumQT (a.ok h1)
  · cases h⟩
/-! ### lists and tuples all as tuples, at any depth -/
def asT : Nat → PyData → Option PyData
  | 0, _ => none
  | n + 1, d => match d with
    | .list ds => (ds.mapM (asT n)).bind fun es => if ds.length ≤ 100000 then some (.tuple es) else none
    | .tuple ds => (ds.mapM (asT n)).bind fun es => if ds.length ≤ 100000 then some (.tuple es) else none
    | .int i => some (.int i)
    | .str s => some (.str s)
    | _ => none
end
end DL

namespace DL
open PySem PySem.Spec PyProof PyProof.Rows L2
open Evl (Ex)
open RZ
/-! ### a text within a text -/
def rInTx : R2 := fun x y H Q => ∃ i j, x = .str i ∧ y = .str j ∧ Q (.bl (!(Builtin.Str.occurrences j i 0 j.length 1).isEmpty)) H
section
variable {K : PySem.W.Frag}
def oInTx : F2 K rInTx := ⟨fun x y => match x, y with | .str i, .str j => some (.bool (!(Builtin.Str.occurrences j i 0 j.length 1).isEmpty)) | _, _ => none, fun {x y z} e => by
  cases x <;> cases y <;> first | cases e | skip
  intro Hd H v w ex d1 d2 Q q
  cases d1
  cases d2
  exact ⟨_, _, rfl, rfl, q _ Hd H (.refl ex) (.bl _)⟩⟩
end
end DL

namespace DL
open PySem PySem.Spec PyProof PyProof.Rows L2
open PySem.Sem (wp)
open PySem.W (KdxIt kdx_alive)
open Evl (Ex)
open RZ
/-! ### zip of any number of lists or tuples -/
theorem zn_new : ∀ as : List Value, as.length ≤ 20 → checkBuiltinCall "zip.__new__" ⟨.type "zip" :: as, []⟩ = pure ()
  | [], _ => by kernel_rfl
  | [a0], _ => by kernel_rfl
  | [a0, a1], _ => by kernel_rfl
  | [a0, a1, a2], _ => by kernel_rfl
  | [a0, a1, a2, a3], _ => by kernel_rfl
  | [a0, a1, a2, a3, a4], _ => by kernel_rfl
  | [a0, a1, a2, a3, a4, a5], _ => by kernel_rfl
  | [a0, a1, a2, a3, a4, a5, a6], _ => by kernel_rfl
  | [a0, a1, a2, a3, a4, a5, a6, a7], _ => by kernel_rfl
  | [a0, a1, a2, a3, a4, a5, a6, a7, a8], _ => by kernel_rfl
  | [a0, a1, a2, a3, a4, a5, a6, a7, a8, a9], _ => by kernel_rfl
  | [a0, a1, a2, a3, a4, a5, a6, a7, a8, a9, a10], _ => by kernel_rfl
  | [a0, a1, a2, a3, a4, a5, a6, a7, a8, a9, a10, a11], _ => by kernel_rfl
  | [a0, a1, a2, a3, a4, a5, a6, a7, a8, a9, a10, a11, a12], _ => by kernel_rfl
  | [a0, a1, a2, a3, a4, a5, a6, a7, a8, a9, a10, a11, a12, a13], _ => by kernel_rfl
  | [a0, a1, a2, a3, a4, a5, a6, a7, a8, a9, a10, a11, a12, a13, a14], _ => by kernel_rfl
  | [a0, a1, a2, a3, a4, a5, a6, a7, a8, a9, a10, a11, a12, a13, a14, a15], _ => by kernel_rfl
  | [a0, a1, a2, a3, a4, a5, a6, a7, a8, a9, a10, a11, a12, a13, a14, a15, a16], _ => by kernel_rfl
  | [a0, a1, a2, a3, a4, a5, a6, a7, a8, a9, a10, a11, a12, a13, a14, a15, a16, a17], _ => by kernel_rfl
  | [a0, a1, a2, a3, a4, a5, a6, a7, a8, a9, a10, a11, a12, a13, a14, a15, a16, a17, a18], _ => by kernel_rfl
  | [a0, a1, a2, a3, a4, a5, a6, a7, a8, a9, a10, a11, a12, a13, a14, a15, a16, a17, a18, a19], _ => by kernel_rfl
  | _ :: _ :: _ :: _ :: _ :: _ :: _ :: _ :: _ :: _ :: _ :: _ :: _ :: _ :: _ :: _ :: _ :: _ :: _ :: _ :: _ :: _, h => absurd h (by simp)
theorem zn_init (a : Value) : ∀ as : List Value, as.length ≤ 20 → argsOk "object.__init__" ⟨a :: as, []⟩
  | [], _ => by unfold argsOk; rw [signature?_of (id := "object.__init__") (n := ['_', '_', 't', 'i', 'n', 'i', '_', '_']) (o := ['t', 'c', 'e', 'j', 'b', 'o']) (by kernel_rfl) PySem.F.owner_object]; kernel_rfl
  | [a0], _ => by unfold argsOk; rw [signature?_of (id := "object.__init__") (n := ['_', '_', 't', 'i', 'n', 'i', '_', '_']) (o := ['t', 'c', 'e', 'j', 'b', 'o']) (by kernel_rfl) PySem.F.owner_object]; kernel_rfl
  | [a0, a1], _ => by unfold argsOk; rw [signature?_of (id := "object.__init__") (n := ['_', '_', 't', 'i', 'n', 'i', '_', '_']) (o := ['t', 'c', 'e', 'j', 'b', 'o']) (by kernel_rfl) PySem.F.owner_object]; kernel_rfl
  | [a0, a1, a2], _ => by unfold argsOk; rw [signature?_of (id := "object.__init__") (n := ['_', '_', 't', 'i', 'n', 'i', '_', '_']) (o := ['t', 'c', 'e', 'j', 'b', 'o']) (by kernel_rfl) PySem.F.owner_object]; kernel_rfl
  | [a0, a1, a2, a3], _ => by unfold argsOk; rw [signature?_of (id := "object.__init__") (n := ['_', '_', 't', 'i', 'n', 'i', '_', '_']) (o := ['t', 'c', 'e', 'j', 'b', 'o']) (by kernel_rfl) PySem.F.owner_object]; kernel_rfl
  | [a0, a1, a2, a3, a4], _ => by unfold argsOk; rw [signature?_of (id := "object.__init__") (n := ['_', '_', 't', 'i', 'n', 'i', '_', '_']) (o := ['t', 'c', 'e', 'j', 'b', 'o']) (by kernel_rfl) PySem.F.owner_object]; kernel_rfl
  | [a0, a1, a2, a3, a4, a5], _ => by unfold argsOk; rw [signature?_of (id := "object.__init__") (n := ['_', '_', 't', 'i', 'n', 'i', '_', '_']) (o := ['t', 'c', 'e', 'j', 'b', 'o']) (by kernel_rfl) PySem.F.owner_object]; kernel_rfl
  | [a0, a1, a2, a3, a4, a5, a6], _ => by unfold argsOk; rw [signature?_of (id := "object.__init__") (n := ['_', '_', 't', 'i', 'n', 'i', '_', '_']) (o := ['t', 'c', 'e', 'j', 'b', 'o']) (by kernel_rfl) PySem.F.owner_object]; kernel_rfl
  | [a0, a1, a2, a3, a4, a5, a6, a7], _ => by unfold argsOk; rw [signature?_of (id := "object.__init__") (n := ['_', '_', 't', 'i', 'n', 'i', '_', '_']) (o := ['t', 'c', 'e', 'j', 'b', 'o']) (by kernel_rfl) PySem.F.owner_object]; kernel_rfl
  | [a0, a1, a2, a3, a4, a5, a6, a7, a8], _ => by unfold argsOk; rw [signature?_of (id := "object.__init__") (n := ['_', '_', 't', 'i', 'n', 'i', '_', '_']) (o := ['t', 'c', 'e', 'j', 'b', 'o']) (by kernel_rfl) PySem.F.owner_object]; kernel_rfl
  | [a0, a1, a2, a3, a4, a5, a6, a7, a8, a9], _ => by unfold argsOk; rw [signature?_of (id := "object.__init__") (n := ['_', '_', 't', 'i', 'n', 'i', '_', '_']) (o := ['t', 'c', 'e', 'j', 'b', 'o']) (by kernel_rfl) PySem.F.owner_object]; kernel_rfl
  | [a0, a1, a2, a3, a4, a5, a6, a7, a8, a9, a10], _ => by unfold argsOk; rw [signature?_of (id := "object.__init__") (n := ['_', '_', 't', 'i', 'n', 'i', '_', '_']) (o := ['t', 'c', 'e', 'j', 'b', 'o']) (by kernel_rfl) PySem.F.owner_object]; kernel_rfl
  | [a0, a1, a2, a3, a4, a5, a6, a7, a8, a9, a10, a11], _ => by unfold argsOk; rw [signature?_of (id := "object.__init__") (n := ['_', '_', 't', 'i', 'n', 'i', '_', '_']) (o := ['t', 'c', 'e', 'j', 'b', 'o']) (by kernel_rfl) PySem.F.owner_object]; kernel_rfl
  | [a0, a1, a2, a3, a4, a5, a6, a7, a8, a9, a10, a11, a12], _ => by unfold argsOk; rw [signature?_of (id := "object.__init__") (n := ['_', '_', 't', 'i', 'n', 'i', '_', '_']) (o := ['t', 'c', 'e', 'j', 'b', 'o']) (by kernel_rfl) PySem.F.owner_object]; kernel_rfl
  | [a0, a1, a2, a3, a4, a5, a6, a7, a8, a9, a10, a11, a12, a13], _ => by unfold argsOk; rw [signature?_of (id := "object.__init__") (n := ['_', '_', 't', 'i', 'n', 'i', '_', '_']) (o := ['t', 'c', 'e', 'j', 'b', 'o']) (by kernel_rfl) PySem.F.owner_object]; kernel_rfl
  | [a0, a1, a2, a3, a4, a5, a6, a7, a8, a9, a10, a11, a12, a13, a14], _ => by unfold argsOk; rw [signature?_of (id := "object.__init__") (n := ['_', '_', 't', 'i', 'n', 'i', '_', '_']) (o := ['t', 'c', 'e', 'j', 'b', 'o']) (by kernel_rfl) PySem.F.owner_object]; kernel_rfl
  | [a0, a1, a2, a3, a4, a5, a6, a7, a8, a9, a10, a11, a12, a13, a14, a15], _ => by unfold argsOk; rw [signature?_of (id := "object.__init__") (n := ['_', '_', 't', 'i', 'n', 'i', '_', '_']) (o := ['t', 'c', 'e', 'j', 'b', 'o']) (by kernel_rfl) PySem.F.owner_object]; kernel_rfl
  | [a0, a1, a2, a3, a4, a5, a6, a7, a8, a9, a10, a11, a12, a13, a14, a15, a16], _ => by unfold argsOk; rw [signature?_of (id := "object.__init__") (n := ['_', '_', 't', 'i', 'n', 'i', '_', '_']) (o := ['t', 'c', 'e', 'j', 'b', 'o']) (by kernel_rfl) PySem.F.owner_object]; kernel_rfl
  | [a0, a1, a2, a3, a4, a5, a6, a7, a8, a9, a10, a11, a12, a13, a14, a15, a16, a17], _ => by unfold argsOk; rw [signature?_of (id := "object.__init__") (n := ['_', '_', 't', 'i', 'n', 'i', '_', '_']) (o := ['t', 'c', 'e', 'j', 'b', 'o']) (by kernel_rfl) PySem.F.owner_object]; kernel_rfl
  | [a0, a1, a2, a3, a4, a5, a6, a7, a8, a9, a10, a11, a12, a13, a14, a15, a16, a17, a18], _ => by unfold argsOk; rw [signature?_of (id := "object.__init__") (n := ['_', '_', 't', 'i', 'n', 'i', '_', '_']) (o := ['t', 'c', 'e', 'j', 'b', 'o']) (by kernel_rfl) PySem.F.owner_object]; kernel_rfl
  | [a0, a1, a2, a3, a4, a5, a6, a7, a8, a9, a10, a11, a12, a13, a14, a15, a16, a17, a18, a19], _ => by unfold argsOk; rw [signature?_of (id := "object.__init__") (n := ['_', '_', 't', 'i', 'n', 'i', '_', '_']) (o := ['t', 'c', 'e', 'j', 'b', 'o']) (by kernel_rfl) PySem.F.owner_object]; kernel_rfl
  | _ :: _ :: _ :: _ :: _ :: _ :: _ :: _ :: _ :: _ :: _ :: _ :: _ :: _ :: _ :: _ :: _ :: _ :: _ :: _ :: _ :: _, h => absurd h (by simp)
/-- one of those that are walked together: of which kind, its iterator, itself, its items -/
structure Zc where
  b : Bool
  it : Nat
  l : Nat
  xs : Array Value
def Zc.St (c : Zc) (k : Nat) (h : Heap) : Prop := if c.b = true then h.IsListIter c.it c.l k else h.IsTupleIter c.it c.l k
def Zc.C (c : Zc) (h : Heap) : Prop := if c.b = true then h.IsList c.l c.xs else h.IsTuple c.l c.xs
theorem Zc.sd {prog : Program} {w : World} (c : Zc) : Sd prog w c.it c.l c.xs (fun k h => c.St k h) fun h => c.C h := by
  obtain ⟨b, it, l, xs⟩ := c
  cases b with
  | true => exact Sd.list
  | false => exact Sd.tup
def Zc.val (c : Zc) (k : Nat) : Value := c.xs[k]?.getD .none
def tupO (arr : Array Value) : Obj := { cls := .type "tuple", data := .seq arr }
def zipO (f0 : Value) (f1 : Bool) (TI TO : Addr) : Obj := { cls := .type "zip", dict := none, data := .fields #[f0, .bool f1, .bool false, .ref TI, .ref TO], slots := #[] }
/-- the zip at z has given k times -/
structure Zn (z TI TO : Addr) (cs : List Zc) (k : Nat) (h : Heap) : Prop where
  ti : h.get? TI = some (tupO (cs.map fun c => Value.ref c.it).toArray)
  to : ∃ arr : Array Value, h.get? TO = some (tupO arr) ∧ arr.size = cs.length
  zz : ∃ f0 f1, (f0 = Value.none ∨ ∃ T : Addr, f0 = rawInt T) ∧ h.get? z = some (zipO f0 f1 TI TO)
  st : ∀ c ∈ cs, c.St k h
/-- all are apart -/
structure ZnA (z TI TO : Addr) (cs : List Zc) : Prop where
  TIz : TI ≠ z
  TOz : TO ≠ z
  TITO : TI ≠ TO
  itz : ∀ c ∈ cs, c.it ≠ z
  itTI : ∀ c ∈ cs, c.it ≠ TI
  itTO : ∀ c ∈ cs, c.it ≠ TO
  lz : ∀ c ∈ cs, c.l ≠ z
  lTO : ∀ c ∈ cs, c.l ≠ TO
  lit : ∀ c ∈ cs, ∀ d ∈ cs, c.l ≠ d.it
  nd : (cs.map (·.it)).Nodup
  ne : cs ≠ []
theorem Zc.stAt {c : Zc} {k : Nat} {h g : Heap} (st : c.St k h) (up : ∀ o, h.get? c.it = some o → g.get? c.it = some o) : c.St k g := by
  obtain ⟨b, it, l, xs⟩ := c
  cases b with
  | true => exact Heap.IsListIter.at st up
  | false =>
    obtain ⟨o, e, r⟩ := (show Heap.IsTupleIter h it l k from st)
    exact (show Heap.IsTupleIter g it l k from ⟨o, up o e, r⟩)
theorem Zc.cAt {c : Zc} {h g : Heap} (st : c.C h) (up : ∀ o, h.get? c.l = some o → g.get? c.l = some o) : c.C g := by
  obtain ⟨b, it, l, xs⟩ := c
  cases b with
  | true => exact Heap.IsList.at st up
  | false => exact Heap.IsTuple.at st up
section
variable {z TI TO : Addr} {cs : List Zc} {k : Nat}
theorem Zn.keep {h g : Heap} (st : Zn z TI TO cs k h) (up : ∀ b, (b = z ∨ b = TI ∨ b = TO ∨ b ∈ cs.map (·.it)) → ∀ o, h.get? b = some o → g.get? b = some o) : Zn z TI TO cs k g := by
  obtain ⟨t1, ⟨arr, t2, t3⟩, ⟨f0, f1, t4, t5⟩, t6⟩ := st
  refine ⟨up _ (by simp) _ t1, ⟨arr, up _ (by simp) _ t2, t3⟩, ⟨f0, f1, t4, up _ (by simp) _ t5⟩, fun c hc => ?_⟩
  exact Zc.stAt (t6 c hc) fun o => up _ (.inr (.inr (.inr (List.mem_map.mpr ⟨c, hc, rfl⟩)))) o
end
section
variable {prog : Program} {w : World} {A : Around} {E : Value → Shared → Prop} {s : Shared} {z TI TO : Addr} {cs : List Zc} {k : Nat}
theorem zn_load {a : Addr} {Q : Option Obj → Shared → Prop} (h : Q (s.heap.get? a) s) : wpAny (model prog w) A (loadIfAlive a) Q E s := fun _ _ _ => h
theorem zn_free {f0 : Value} {f1 : Bool} {Q : Bool → Shared → Prop} (h0 : f0 = Value.none ∨ ∃ T : Addr, f0 = rawInt T) (hz : s.heap.get? z = some (zipO f0 f1 TI TO))
    (hQ : ∀ b f1' g, g.get? z = some (zipO f0 f1' TI TO) → Heap.SameBut z s.heap g → Q b { s with heap := g }) : wpAny (model prog w) A (Builtin.SmallTypes.ownedTupleIsFree (.ref z)) Q E s := by
  unfold Builtin.SmallTypes.ownedTupleIsFree
  refine wpAny_bind (wpAny_field hz rfl (x := f0) rfl ?_)
  rcases h0 with rfl | ⟨T, rfl⟩
  · exact wpAny_pure (hQ true f1 s.heap hz (Heap.SameBut.refl _ _))
  · show wpAny _ _ (loadIfAlive ((T : Int).toNat) >>= _) _ _ _
    rw [Int.toNat_natCast]
    refine wpAny_bind (zn_load ?_)
    cases hT : s.heap.get? T with
    | none =>
      simp only [Option.isNone_none, if_true]
      exact wpAny_pure (hQ true f1 s.heap hz (Heap.SameBut.refl _ _))
    | some o =>
      simp only [Option.isNone_some, Bool.false_eq_true, if_false]
      refine wpAny_bind (wpAny_field hz rfl (x := .bool f1) rfl ?_)
      cases f1 with
      | true =>
        rw [if_neg (show ¬ ((Value.bool true != Value.bool true) = true) from Bool.false_ne_true)]
        exact wpAny_pure (hQ false true s.heap hz (Heap.SameBut.refl _ _))
      | false =>
        rw [if_pos (show (Value.bool false != Value.bool true) = true from rfl)]
        exact wpAny_bind (wpAny_setField_rec hz (by simp) fun h₁ hz₁ hs₁ => wpAny_pure (hQ false true h₁ hz₁ hs₁))
/-- within a turn: those of done have given theirs -/
structure Zl (z TI TO : Addr) (cs : List Zc) (k : Nat) (zo : Obj) (h0 : Heap) (done todo : List Zc) (h : Heap) : Prop where
  eq : cs = done ++ todo
  zz : h.get? z = some zo
  to : ∃ arr : Array Value, h.get? TO = some (tupO arr) ∧ arr.size = cs.length
  dn : ∀ c ∈ done, c.St (k + 1) h
  td : ∀ c ∈ todo, c.St k h
  cc : ∀ c ∈ cs, c.C h
  sz : h.objs.size = h0.objs.size
  kp : ∀ b o, b ≠ z → b ≠ TO → b ∉ cs.map (·.it) → h0.get? b = some o → h.get? b = some o
theorem Zl.next {zo : Obj} {h0 h g : Heap} {done todo : List Zc} {c : Zc} (D : ZnA z TI TO cs) (L : Zl z TI TO cs k zo h0 done (c :: todo) h) (g1 : c.St (k + 1) g) (u : Heap.SameBut c.it h g) : Zl z TI TO cs k zo h0 (done ++ [c]) todo g := by
  have hcs : c ∈ cs := by rw [L.eq]; simp
  have sub : ∀ d ∈ done, d ∈ cs := fun d hd => by rw [L.eq]; exact List.mem_append_left _ hd
  have sub2 : ∀ d ∈ todo, d ∈ cs := fun d hd => by rw [L.eq]; simp [hd]
  have nd := D.nd
  rw [L.eq, List.map_append, List.map_cons] at nd
  have n1 : ∀ d ∈ done, d.it ≠ c.it := fun d hd z => by
    have := (List.nodup_append.mp nd).2.2 d.it (List.mem_map.mpr ⟨d, hd, rfl⟩) c.it List.mem_cons_self
    exact this z
  have n2 : ∀ d ∈ todo, d.it ≠ c.it := fun d hd z => by
    have := (List.nodup_cons.mp (List.nodup_append.mp nd).2.1).1
    exact this (z ▸ List.mem_map.mpr ⟨d, hd, rfl⟩)
  obtain ⟨arr, t2, t3⟩ := L.to
  refine ⟨by rw [L.eq]; simp, u.extBut _ _ (D.itz c hcs).symm L.zz, ⟨arr, u.extBut _ _ (D.itTO c hcs).symm t2, t3⟩, fun d hd => ?_, fun d hd => ?_, fun d hd => ?_, u.1.trans L.sz, fun b o b1 b2 b3 e => ?_⟩
  · rcases List.mem_append.mp hd with hd | hd
    · exact Zc.stAt (L.dn d hd) fun o => u.extBut _ _ (n1 d hd)
    · rw [List.mem_singleton.mp hd]; exact g1
  · exact Zc.stAt (L.td d (List.mem_cons_of_mem _ hd)) fun o => u.extBut _ _ (n2 d hd)
  · exact Zc.cAt (L.cc d hd) fun o => u.extBut _ _ (D.lit d hd c hcs)
  · exact u.extBut _ _ (fun z => b3 (z ▸ List.mem_map.mpr ⟨c, hcs, rfl⟩)) (L.kp b o b1 b2 b3 e)
theorem Zl.setTO {zo : Obj} {h0 h g : Heap} {done todo : List Zc} {arr : Array Value} (D : ZnA z TI TO cs) (L : Zl z TI TO cs k zo h0 done todo h) (g1 : g.get? TO = some (tupO arr)) (ha : arr.size = cs.length) (u : Heap.SameBut TO h g) : Zl z TI TO cs k zo h0 done todo g :=
  ⟨L.eq, u.extBut _ _ D.TOz.symm L.zz, ⟨arr, g1, ha⟩, fun d hd => Zc.stAt (L.dn d hd) fun o => u.extBut _ _ (D.itTO d (by rw [L.eq]; exact List.mem_append_left _ hd)),
    fun d hd => Zc.stAt (L.td d hd) fun o => u.extBut _ _ (D.itTO d (by rw [L.eq]; exact List.mem_append_right _ hd)), fun d hd => Zc.cAt (L.cc d hd) fun o => u.extBut _ _ (D.lTO d hd), u.1.trans L.sz, fun b o b1 b2 b3 e => u.extBut _ _ b2 (L.kp b o b1 b2 b3 e)⟩
theorem upd_tup {T : Addr} {arr : Array Value} {x : Value} {j : Nat} {Q : Unit → Shared → Prop} (hT : s.heap.get? T = some (tupO arr)) (hz : arr.size ≤ sizeLine)
    (h : ∀ h', h'.get? T = some (tupO (arr.setIfInBounds j x)) → Heap.SameBut T s.heap h' → Q () { s with heap := h' }) :
    wpAny (model prog w) A (updateSeq T (·.setIfInBounds j x)) Q E s := by
  refine wpAny_updateSeq hT rfl (h _ ?_ (Heap.SameBut.update ..)) hz (by rw [Array.size_setIfInBounds]; omega)
  rw [Heap.get?_update_self _ hT rfl]
  simp [Obj.mapSeq, tupO]
theorem Zc.val_eq {c : Zc} (h : k < c.xs.size) : c.xs[k]? = some (c.val k) := by
  unfold Zc.val
  rw [Array.getElem?_eq_getElem h]
  rfl
theorem zn_one {Q : Value → Shared → Prop} (D : ZnA z TI TO cs) (st : Zn z TI TO cs k s.heap) (hc : ∀ c ∈ cs, c.C s.heap) (hx : ∀ c ∈ cs, k < c.xs.size) (hl : cs.length ≤ sizeLine)
    (hQ : ∀ g, Zn z TI TO cs (k + 1) g → g.get? s.heap.objs.size = some (tupO (cs.map (·.val k)).toArray) → g.objs.size = s.heap.objs.size + 1 → (∀ b o, b ≠ z → b ≠ TO → b ∉ cs.map (·.it) → s.heap.get? b = some o → g.get? b = some o) → Q (.ref s.heap.objs.size) { s with heap := g }) :
    wpAny (model prog w) A (Builtin.«zip.__next__» ⟨[.ref z], []⟩) (fun fin s' => ∃ v, fin = .done (.ret v) ∧ Q v s') E s := by
  obtain ⟨t1, ⟨arr, t2, t3⟩, ⟨f0, f1, t4, t5⟩, t6⟩ := st
  have nTI : TI ∉ cs.map (·.it) := fun z => by
    obtain ⟨c, hc, e⟩ := List.mem_map.mp z
    exact D.itTI c hc e
  have nz : z < s.heap.objs.size := Heap.lt_size t5
  show wpAny _ _ (field (.ref z) 2 >>= _) _ _ _
  refine wpAny_bind (wpAny_field t5 rfl (x := .bool false) rfl ?_)
  show wpAny _ _ (field (.ref z) 3 >>= _) _ _ _
  refine wpAny_bind (wpAny_field t5 rfl (x := .ref TI) rfl ?_)
  refine wpAny_bind (wpAny_seqItems t1 rfl ?_)
  have hemp : (cs.map fun c => Value.ref c.it).toArray.isEmpty = false := by
    cases cs with
    | nil => exact absurd rfl D.ne
    | cons _ _ => rfl
  simp only [hemp, Bool.false_eq_true, if_false]
  show wpAny _ _ (Builtin.SmallTypes.ownedTupleIsFree (.ref z) >>= _) _ _ _
  refine wpAny_bind (zn_free t4 t5 fun b f1' g1 z1 u1 => ?_)
  have L1 : Zl z TI TO cs k (zipO f0 f1' TI TO) s.heap [] cs g1 := ⟨rfl, z1, ⟨arr, u1.extBut _ _ D.TOz t2, t3⟩, (fun _ z => nomatch z), fun c hc' => Zc.stAt (t6 c hc') fun o => u1.extBut _ _ (D.itz c hc'), fun c hc' => Zc.cAt (hc c hc') fun o => u1.extBut _ _ (D.lz c hc'), u1.1, fun b o b1 _ _ e => u1.extBut _ _ b1 e⟩
  cases b with
  | true =>
    simp only [if_true]
    refine wpAny_bind (wpAny_rule ?_)
    refine wpAny_bind (wpAny_field z1 rfl (x := .ref TO) rfl ?_)
    refine wpAny_bind (wpAny_setField_rec z1 (by simp) fun g2 z2 u2 => ?_)
    replace z2 : g2.get? z = some (zipO .ellipsis f1' TI TO) := z2
    replace u2 : Heap.SameBut z g1 g2 := u2
    refine wpAny_bind ?_
    refine wpAny_forIn_list _ (fun rest b s' => b = (none, ()) ∧ ∃ done todo h, rest = (todo.map fun c => Value.ref c.it).zipIdx done.length ∧ s' = { s with heap := h } ∧ Zl z TI TO cs k (zipO .ellipsis f1' TI TO) s.heap done todo h ∧
      ∃ arr : Array Value, h.get? TO = some (tupO arr) ∧ arr.size = cs.length ∧ ∀ (i : Nat) (c : Zc), done[i]? = some c → arr[i]? = some (c.val k)) _ ?_ ?_ _ _ ?_
    · rintro ⟨itv, j⟩ rest b s' ⟨rfl, done, todo, h, er, rfl, L, arr, a1, a2, a3⟩
      cases todo with
      | nil => cases er
      | cons c todo =>
        rw [List.map_cons, List.zipIdx_cons] at er
        obtain ⟨e1, e2⟩ := List.cons.inj er
        cases e1
        have hcs : c ∈ cs := by rw [L.eq]; simp
        refine wpAny_bind (wpAny_onRaise ?_)
        show wpAny _ _ (Builtin.SmallTypes.nextOf (.ref c.it) >>= _) _ _ _
        refine wpAny_bind (c.sd.item (s := { s with heap := h }) (L.td c List.mem_cons_self) (L.cc c hcs) (Zc.val_eq (hx c hcs)) fun g3 s3 u3 => wpAny_pure ?_)
        replace u3 : Heap.SameBut c.it h g3 := u3
        have L3 := L.next D s3 u3
        have a1' : g3.get? TO = some (tupO arr) := u3.extBut _ _ (D.itTO c hcs).symm a1
        refine wpAny_bind (wpAny_seqItems a1' rfl ?_)
        refine wpAny_bind (upd_tup a1' (by rw [a2]; exact hl) fun g4 t4 u4 => ?_)
        replace u4 : Heap.SameBut TO g3 g4 := u4
        refine wpAny_bind (wpAny_letGo (wpAny_pure ?_))
        refine ⟨rfl, done ++ [c], todo, g4, by rw [e2, List.length_append]; rfl, rfl, L3.setTO D t4 (by rw [Array.size_setIfInBounds]; exact a2) u4, _, t4, by rw [Array.size_setIfInBounds]; exact a2, fun i d hd => ?_⟩
        have hlen : done.length < arr.size := by rw [a2, L.eq, List.length_append]; simp
        rcases Nat.lt_trichotomy i done.length with hi | hi | hi
        · rw [List.getElem?_append_left hi] at hd
          rw [Array.getElem?_setIfInBounds_ne (by omega)]
          exact a3 i d hd
        · subst hi
          rw [List.getElem?_append_right (Nat.le_refl _), Nat.sub_self] at hd
          cases hd
          rw [Array.getElem?_setIfInBounds_self_of_lt hlen]
        · rw [List.getElem?_eq_none (by rw [List.length_append]; show done.length + 1 ≤ i; omega)] at hd
          cases hd
    · rintro b s' ⟨rfl, done, todo, h, er, rfl, L, arr, a1, a2, a3⟩
      cases todo with
      | cons c todo => cases er
      | nil =>
        have ecs : done = cs := by rw [L.eq, List.append_nil]
        subst ecs
        show wpAny _ _ (seqItems? (.ref TO) >>= _) _ _ _
        refine wpAny_bind (wpAny_seqItems a1 rfl ?_)
        have ea : arr.toList = done.map (·.val k) := by
          apply List.ext_getElem?
          intro i
          rw [Array.getElem?_toList, List.getElem?_map]
          cases hd : done[i]? with
          | some c => rw [a3 i c hd]; rfl
          | none =>
            have := List.getElem?_eq_none_iff.mp hd
            exact Array.getElem?_eq_none (by omega)
        refine wpAny_bind (wpAny_newTuple ?_ (by rw [Array.length_toList, a2]; exact hl))
        show wpAny _ _ (Builtin.SmallTypes.ownedTupleHandOut (.ref z) (.ref h.objs.size) >>= _) _ _ _
        refine wpAny_bind ?_
        unfold Builtin.SmallTypes.ownedTupleHandOut
        have ps : ∀ b o, h.get? b = some o → (h.push { cls := .type "tuple", data := .seq arr.toList.toArray }).get? b = some o := fun b o e => Heap.get?_push_of_some _ e
        have z6 := ps _ _ L.zz
        refine wpAny_bind (wpAny_setField_rec z6 (by simp) fun g7 z7 u7 => ?_)
        replace z7 : g7.get? z = some (zipO (rawInt h.objs.size) f1' TI TO) := z7
        replace u7 : Heap.SameBut z (h.push { cls := .type "tuple", data := .seq arr.toList.toArray }) g7 := u7
        refine wpAny_setField_rec z7 (by simp) fun g8 z8 u8 => ?_
        replace z8 : g8.get? z = some (zipO (rawInt h.objs.size) false TI TO) := z8
        replace u8 : Heap.SameBut z g7 g8 := u8
        have up : ∀ b o, b ≠ z → h.get? b = some o → g8.get? b = some o := fun b o nb e => u8.extBut _ _ nb (u7.extBut _ _ nb (ps _ _ e))
        have nzh : h.objs.size ≠ z := by rw [L.sz]; exact Nat.ne_of_gt nz
        have t8 : g8.get? h.objs.size = some (tupO arr) := u8.extBut _ _ nzh (u7.extBut _ _ nzh (by
          have := Heap.get?_push_size h (o := ({ cls := .type "tuple", data := .seq arr.toList.toArray } : Obj)) rfl
          rw [this]; simp [tupO]))
        have sz8 : g8.objs.size = s.heap.objs.size + 1 := by rw [u8.1, u7.1, Heap.size_push, L.sz]
        refine wpAny_pure ⟨_, rfl, ?_⟩
        have t8' : g8.get? s.heap.objs.size = some (tupO (done.map (·.val k)).toArray) := by
          rw [← L.sz, t8, ← ea]
        show Q (.ref h.objs.size) _
        rw [L.sz]
        refine hQ g8 ⟨up _ _ D.TIz (L.kp _ _ D.TIz D.TITO nTI t1), ⟨arr, up _ _ D.TOz a1, a2⟩, ⟨_, _, .inr ⟨_, rfl⟩, z8⟩, fun c hc' => Zc.stAt (L.dn c hc') fun o => up _ _ (D.itz c hc')⟩ t8' sz8 fun b o b1 b2 b3 e => up b o b1 (L.kp b o b1 b2 b3 e)
    · exact ⟨rfl, [], cs, g2, rfl, rfl, ⟨rfl, z2, ⟨arr, u2.extBut _ _ D.TOz (u1.extBut _ _ D.TOz t2), t3⟩, (fun _ z => nomatch z), fun c hc' => Zc.stAt (L1.td c hc') fun o => u2.extBut _ _ (D.itz c hc'), fun c hc' => Zc.cAt (L1.cc c hc') fun o => u2.extBut _ _ (D.lz c hc'), u2.1.trans u1.1, fun b o b1 b2 b3 e => u2.extBut _ _ b1 (u1.extBut _ _ b1 e)⟩, arr, u2.extBut _ _ D.TOz (u1.extBut _ _ D.TOz t2), t3, fun i c h => by cases h⟩
  | false =>
    simp only [Bool.false_eq_true, if_false]
    refine wpAny_bind ?_
    rw [← Array.forIn_toList]
    refine wpAny_forIn_list _ (fun rest b s' => ∃ done todo h, b = (none, (done.map (·.val k)).toArray) ∧ rest = (todo.map fun c => Value.ref c.it) ∧ s' = { s with heap := h } ∧ Zl z TI TO cs k (zipO f0 f1' TI TO) s.heap done todo h) _ ?_ ?_ _ _ ?_
    · rintro itv rest b s' ⟨done, todo, h, rfl, er, rfl, L⟩
      cases todo with
      | nil => cases er
      | cons c todo =>
        obtain ⟨e1, e2⟩ := List.cons.inj er
        cases e1
        have hcs : c ∈ cs := by rw [L.eq]; simp
        refine wpAny_bind (wpAny_holding ?_)
        show wpAny _ _ (Builtin.SmallTypes.nextOf (.ref c.it) >>= _) _ _ _
        refine wpAny_bind (c.sd.item (s := { s with heap := h }) (L.td c List.mem_cons_self) (L.cc c hcs) (Zc.val_eq (hx c hcs)) fun g3 s3 u3 => wpAny_pure ?_)
        refine wpAny_pure ⟨done ++ [c], todo, g3, ?_, e2, rfl, L.next D s3 u3⟩
        rw [List.map_append]
        simp
    · rintro b s' ⟨done, todo, h, rfl, er, rfl, L⟩
      cases todo with
      | cons c todo => cases er
      | nil =>
        have ecs : done = cs := by rw [L.eq, List.append_nil]
        subst ecs
        show wpAny _ _ (newTuple _ >>= _) _ _ _
        refine wpAny_bind (wpAny_newTuple ?_ (by simpa using hl))
        refine wpAny_pure ⟨_, rfl, ?_⟩
        show Q (.ref h.objs.size) _
        have ps : ∀ b o, h.get? b = some o → (h.push { cls := .type "tuple", data := .seq (done.map (·.val k)).toArray.toList.toArray }).get? b = some o := fun b o e => Heap.get?_push_of_some _ e
        have t8 : (h.push { cls := .type "tuple", data := .seq (done.map (·.val k)).toArray.toList.toArray }).get? s.heap.objs.size = some (tupO (done.map (·.val k)).toArray) := by
          rw [← L.sz]
          have := Heap.get?_push_size h (o := ({ cls := .type "tuple", data := .seq (done.map (·.val k)).toArray.toList.toArray } : Obj)) rfl
          rw [this]
          simp [tupO]
        obtain ⟨arr', a1, a2⟩ := L.to
        rw [L.sz]
        refine hQ _ ⟨ps _ _ (L.kp _ _ D.TIz D.TITO nTI t1), ⟨arr', ps _ _ a1, a2⟩, ⟨_, _, t4, ps _ _ L.zz⟩, fun c hc' => Zc.stAt (L.dn c hc') fun o => ps _ _⟩ t8 (by rw [Heap.size_push, L.sz]) fun b o b1 b2 b3 e => ps _ _ (L.kp b o b1 b2 b3 e)
    · exact ⟨[], cs, g1, rfl, by simp, rfl, L1⟩
theorem zn_end {Q : Fin → Shared → Prop} (hh : A.handled = none) (D : ZnA z TI TO cs) (st : Zn z TI TO cs k s.heap) (hc : ∀ c ∈ cs, c.C s.heap) (hx : ∃ c ∈ cs, c.xs[k]? = none) (hl : cs.length ≤ sizeLine)
    (hE : ∀ g e, (∀ b o, b ≠ z → b ≠ TO → b ∉ cs.map (·.it) → s.heap.get? b = some o → g.get? b = some o) → (∃ o, g.get? e = some o ∧ o.cls = .type "StopIteration") → E (.ref e) { s with heap := g }) :
    wpAny (model prog w) A (Builtin.«zip.__next__» ⟨[.ref z], []⟩) Q E s := by
  obtain ⟨t1, ⟨arr, t2, t3⟩, ⟨f0, f1, t4, t5⟩, t6⟩ := st
  show wpAny _ _ (field (.ref z) 2 >>= _) _ _ _
  refine wpAny_bind (wpAny_field t5 rfl (x := .bool false) rfl ?_)
  show wpAny _ _ (field (.ref z) 3 >>= _) _ _ _
  refine wpAny_bind (wpAny_field t5 rfl (x := .ref TI) rfl ?_)
  refine wpAny_bind (wpAny_seqItems t1 rfl ?_)
  have hemp : (cs.map fun c => Value.ref c.it).toArray.isEmpty = false := by
    cases cs with
    | nil => exact absurd rfl D.ne
    | cons _ _ => rfl
  simp only [hemp, Bool.false_eq_true, if_false]
  show wpAny _ _ (Builtin.SmallTypes.ownedTupleIsFree (.ref z) >>= _) _ _ _
  refine wpAny_bind (zn_free t4 t5 fun b f1' g1 z1 u1 => ?_)
  have L1 : Zl z TI TO cs k (zipO f0 f1' TI TO) s.heap [] cs g1 := ⟨rfl, z1, ⟨arr, u1.extBut _ _ D.TOz t2, t3⟩, (fun _ z => nomatch z), fun c hc' => Zc.stAt (t6 c hc') fun o => u1.extBut _ _ (D.itz c hc'), fun c hc' => Zc.cAt (hc c hc') fun o => u1.extBut _ _ (D.lz c hc'), u1.1, fun b o b1 _ _ e => u1.extBut _ _ b1 e⟩
  cases b with
  | true =>
    simp only [if_true]
    refine wpAny_bind (wpAny_rule ?_)
    refine wpAny_bind (wpAny_field z1 rfl (x := .ref TO) rfl ?_)
    refine wpAny_bind (wpAny_setField_rec z1 (by simp) fun g2 z2 u2 => ?_)
    replace z2 : g2.get? z = some (zipO .ellipsis f1' TI TO) := z2
    replace u2 : Heap.SameBut z g1 g2 := u2
    refine wpAny_bind ?_
    refine wpAny_forIn_list _ (fun rest b s' => b = (none, ()) ∧ ∃ done todo h, rest = (todo.map fun c => Value.ref c.it).zipIdx done.length ∧ s' = { s with heap := h } ∧ Zl z TI TO cs k (zipO .ellipsis f1' TI TO) s.heap done todo h ∧
      (∃ arr : Array Value, h.get? TO = some (tupO arr) ∧ arr.size = cs.length) ∧ ∃ c ∈ todo, c.xs[k]? = none) _ ?_ ?_ _ _ ?_
    · rintro ⟨itv, j⟩ rest b s' ⟨rfl, done, todo, h, er, rfl, L, ⟨arr, a1, a2⟩, c0, hc0, hk0⟩
      cases todo with
      | nil => cases er
      | cons c todo =>
        rw [List.map_cons, List.zipIdx_cons] at er
        obtain ⟨e1, e2⟩ := List.cons.inj er
        cases e1
        have hcs : c ∈ cs := by rw [L.eq]; simp
        refine wpAny_bind (wpAny_onRaise ?_)
        show wpAny _ _ (Builtin.SmallTypes.nextOf (.ref c.it) >>= _) _ _ _
        cases hv : c.xs[k]? with
        | none =>
          refine wpAny_bind (c.sd.fin (s := { s with heap := h }) hh (L.td c List.mem_cons_self) (L.cc c hcs) hv fun g3 e u3 he => ?_)
          replace u3 : Heap.ExtBut c.it h g3 := u3
          obtain ⟨oe, e1, e3⟩ := he
          have z3 : g3.get? z = some (zipO .ellipsis f1' TI TO) := u3 _ _ (D.itz c hcs).symm L.zz
          have ne : e ≠ z := fun x => by subst x; rw [z3] at e1; cases e1; simp [zipO] at e3
          refine wpAny_setField_rec z3 (by simp) fun g4 _ u4 => hE g4 e (fun b o b1 b2 b3 x => u4.extBut _ _ b1 (u3 _ _ (fun y => b3 (y ▸ List.mem_map.mpr ⟨c, hcs, rfl⟩)) (L.kp b o b1 b2 b3 x))) ⟨oe, u4.extBut _ _ ne e1, e3⟩
        | some v =>
          have hc1 : c0 ∈ todo := by
            rcases List.mem_cons.mp hc0 with rfl | q
            · rw [hv] at hk0; cases hk0
            · exact q
          refine wpAny_bind (c.sd.item (s := { s with heap := h }) (L.td c List.mem_cons_self) (L.cc c hcs) hv fun g3 s3 u3 => wpAny_pure ?_)
          replace u3 : Heap.SameBut c.it h g3 := u3
          have L3 := L.next D s3 u3
          have a1' : g3.get? TO = some (tupO arr) := u3.extBut _ _ (D.itTO c hcs).symm a1
          refine wpAny_bind (wpAny_seqItems a1' rfl ?_)
          refine wpAny_bind (upd_tup a1' (by rw [a2]; exact hl) fun g4 t4 u4 => ?_)
          replace u4 : Heap.SameBut TO g3 g4 := u4
          refine wpAny_bind (wpAny_letGo (wpAny_pure ?_))
          exact ⟨rfl, done ++ [c], todo, g4, by rw [e2, List.length_append]; rfl, rfl, L3.setTO D t4 (by rw [Array.size_setIfInBounds]; exact a2) u4, ⟨_, t4, by rw [Array.size_setIfInBounds]; exact a2⟩, c0, hc1, hk0⟩
    · rintro b s' ⟨rfl, done, todo, h, er, rfl, L, _, c0, hc0, hk0⟩
      cases todo with
      | cons c todo => cases er
      | nil => cases hc0
    · exact ⟨rfl, [], cs, g2, rfl, rfl, ⟨rfl, z2, ⟨arr, u2.extBut _ _ D.TOz (u1.extBut _ _ D.TOz t2), t3⟩, (fun _ z => nomatch z), fun c hc' => Zc.stAt (L1.td c hc') fun o => u2.extBut _ _ (D.itz c hc'), fun c hc' => Zc.cAt (L1.cc c hc') fun o => u2.extBut _ _ (D.lz c hc'), u2.1.trans u1.1, fun b o b1 b2 b3 e => u2.extBut _ _ b1 (u1.extBut _ _ b1 e)⟩, ⟨arr, u2.extBut _ _ D.TOz (u1.extBut _ _ D.TOz t2), t3⟩, hx⟩
  | false =>
    simp only [Bool.false_eq_true, if_false]
    refine wpAny_bind ?_
    rw [← Array.forIn_toList]
    refine wpAny_forIn_list _ (fun rest b s' => ∃ done todo h, b = (none, (done.map (·.val k)).toArray) ∧ rest = (todo.map fun c => Value.ref c.it) ∧ s' = { s with heap := h } ∧ Zl z TI TO cs k (zipO f0 f1' TI TO) s.heap done todo h ∧ ∃ c ∈ todo, c.xs[k]? = none) _ ?_ ?_ _ _ ?_
    · rintro itv rest b s' ⟨done, todo, h, rfl, er, rfl, L, c0, hc0, hk0⟩
      cases todo with
      | nil => cases er
      | cons c todo =>
        obtain ⟨e1, e2⟩ := List.cons.inj er
        cases e1
        have hcs : c ∈ cs := by rw [L.eq]; simp
        refine wpAny_bind (wpAny_holding ?_)
        show wpAny _ _ (Builtin.SmallTypes.nextOf (.ref c.it) >>= _) _ _ _
        cases hv : c.xs[k]? with
        | none =>
          refine wpAny_bind (c.sd.fin (s := { s with heap := h }) hh (L.td c List.mem_cons_self) (L.cc c hcs) hv fun g3 e u3 he => ?_)
          replace u3 : Heap.ExtBut c.it h g3 := u3
          exact hE g3 e (fun b o b1 b2 b3 x => u3 _ _ (fun y => b3 (y ▸ List.mem_map.mpr ⟨c, hcs, rfl⟩)) (L.kp b o b1 b2 b3 x)) he
        | some v =>
          have hc1 : c0 ∈ todo := by
            rcases List.mem_cons.mp hc0 with rfl | q
            · rw [hv] at hk0; cases hk0
            · exact q
          refine wpAny_bind (c.sd.item (s := { s with heap := h }) (L.td c List.mem_cons_self) (L.cc c hcs) hv fun g3 s3 u3 => wpAny_pure ?_)
          refine wpAny_pure ⟨done ++ [c], todo, g3, ?_, e2, rfl, L.next D s3 u3, c0, hc1, hk0⟩
          have ev : c.val k = v := by unfold Zc.val; rw [hv]; rfl
          rw [List.map_append, ← ev]
          simp
    · rintro b s' ⟨done, todo, h, rfl, er, rfl, L, c0, hc0, hk0⟩
      cases todo with
      | cons c todo => cases er
      | nil => cases hc0
    · exact ⟨[], cs, g1, rfl, by simp, rfl, L1, hx⟩
theorem zn_nx {Q : Option Value → Shared → Prop} (D : ZnA z TI TO cs) (st : Zn z TI TO cs k s.heap) (hc : ∀ c ∈ cs, c.C s.heap) (hx : ∀ c ∈ cs, k < c.xs.size) (hl : cs.length ≤ sizeLine)
    (hQ : ∀ g, Zn z TI TO cs (k + 1) g → g.get? s.heap.objs.size = some (tupO (cs.map (·.val k)).toArray) → g.objs.size = s.heap.objs.size + 1 → (∀ b o, b ≠ z → b ≠ TO → b ∉ cs.map (·.it) → s.heap.get? b = some o → g.get? b = some o) → Q (some (.ref s.heap.objs.size)) { s with heap := g }) :
    wpAny (model prog w) A (pyNext (.ref z)) Q E s := by
  obtain ⟨_, _, _, hz⟩ := st.zz
  have ty : s.TypeIs (.ref z) "zip" := ⟨_, hz, rfl⟩
  unfold pyNext
  exact wpAny_bind (wpAny_attempt (wpAny_callSpecial?_slot (name := Str.ofString "__next__") ty F.slot_zip_next
    (wpAny_call_entry F.slot_zip_next ty F.entry_zip_next (zn_one D st hc hx hl fun g a1 a2 a3 a4 => wpAny_pure (hQ g a1 a2 a3 a4)) (F.args_zip_next_1 _))))
theorem zn_no {Q : Option Value → Shared → Prop} (hh : A.handled = none) (D : ZnA z TI TO cs) (st : Zn z TI TO cs k s.heap) (hc : ∀ c ∈ cs, c.C s.heap) (hx : ∃ c ∈ cs, c.xs[k]? = none) (hl : cs.length ≤ sizeLine)
    (hQ : ∀ g, (∀ b o, b ≠ z → b ≠ TO → b ∉ cs.map (·.it) → s.heap.get? b = some o → g.get? b = some o) → Q none { s with heap := g }) : wpAny (model prog w) A (pyNext (.ref z)) Q E s := by
  obtain ⟨_, _, _, hz⟩ := st.zz
  have ty : s.TypeIs (.ref z) "zip" := ⟨_, hz, rfl⟩
  unfold pyNext
  refine wpAny_bind (wpAny_attempt (wpAny_callSpecial?_slot (name := Str.ofString "__next__") ty F.slot_zip_next
    (wpAny_call_entry F.slot_zip_next ty F.entry_zip_next (zn_end hh D st hc hx hl fun g e kp he => ?_) (F.args_zip_next_1 _))))
  obtain ⟨o, e1, e2⟩ := he
  refine wpAny_bind (wpAny_isInstance (T := "StopIteration") (b := true) ⟨o, e1, e2⟩ isSubtype_stop ?_)
  exact wpAny_pure (hQ _ kp)
theorem zn_self {Q : Value → Shared → Prop} (st : Zn z TI TO cs k s.heap) (h : Q (.ref z) s) : wpAny (model prog w) A (pyIter (.ref z)) Q E s := by
  obtain ⟨_, _, _, hz⟩ := st.zz
  have hT : s.TypeIs (.ref z) "zip" := ⟨_, hz, rfl⟩
  refine wpAny_pyIter_slot hT F.slot_zip_iter (wpAny_call_entry F.slot_zip_iter hT F.entry_zip_iter ?_ (F.args_zip_iter_1 _))
  show wpAny _ _ (ret (.ref z)) _ _ s
  exact wpAny_pure ⟨_, rfl, "zip", _, hT, F.slot_zip_next.lookup, h⟩
end
end DL

namespace DL
open PySem PySem.Spec PyProof PyProof.Rows L2
open PySem.Sem (wp)
open Evl (Ex)
open RZ
def mkZ : Nat → List (Bool × Nat × Array Value) → List Zc
  | _, [] => []
  | n, d :: r => ⟨d.1, n, d.2.1, d.2.2⟩ :: mkZ (n + 1) r
def isSeq (d : Bool × Nat × Array Value) (h : Heap) : Prop := if d.1 = true then h.IsList d.2.1 d.2.2 else h.IsTuple d.2.1 d.2.2
theorem mkZ_len : ∀ (ds : List (Bool × Nat × Array Value)) (n : Nat), (mkZ n ds).length = ds.length
  | [], _ => rfl
  | _ :: r, n => by show (mkZ (n + 1) r).length + 1 = r.length + 1; rw [mkZ_len r]
theorem mkZ_app : ∀ (ds es : List (Bool × Nat × Array Value)) (n : Nat), mkZ n (ds ++ es) = mkZ n ds ++ mkZ (n + ds.length) es
  | [], _, _ => rfl
  | d :: r, es, n => by
    show _ :: mkZ (n + 1) (r ++ es) = _ :: (mkZ (n + 1) r ++ mkZ (n + (r.length + 1)) es)
    rw [mkZ_app r es (n + 1), show n + 1 + r.length = n + (r.length + 1) by omega]
theorem mkZ_it : ∀ (ds : List (Bool × Nat × Array Value)) (n : Nat), ∀ c ∈ mkZ n ds, n ≤ c.it ∧ c.it < n + ds.length ∧ ∃ d ∈ ds, c.b = d.1 ∧ c.l = d.2.1 ∧ c.xs = d.2.2
  | [], _, _, h => nomatch h
  | d :: r, n, c, h => by
    rcases List.mem_cons.mp h with rfl | h
    · exact ⟨Nat.le_refl _, by show n < n + (r.length + 1); omega, d, List.mem_cons_self, rfl, rfl, rfl⟩
    · obtain ⟨h1, h2, e, he, h3⟩ := mkZ_it r (n + 1) c h
      refine ⟨by omega, ?_, e, List.mem_cons_of_mem _ he, h3⟩
      show c.it < n + (r.length + 1)
      omega
theorem mkZ_nd : ∀ (ds : List (Bool × Nat × Array Value)) (n : Nat), ((mkZ n ds).map (·.it)).Nodup
  | [], _ => .nil
  | d :: r, n => by
    show (n :: (mkZ (n + 1) r).map (·.it)).Nodup
    refine List.nodup_cons.mpr ⟨fun h => ?_, mkZ_nd r (n + 1)⟩
    obtain ⟨c, hc, e⟩ := List.mem_map.mp h
    have := (mkZ_it r (n + 1) c hc).1
    have e : c.it = n := e
    omega
theorem isSeq.at {d : Bool × Nat × Array Value} {h g : Heap} (q : isSeq d h) (up : ∀ o, h.get? d.2.1 = some o → g.get? d.2.1 = some o) : isSeq d g := by
  obtain ⟨b, l, xs⟩ := d
  cases b with
  | true => exact Heap.IsList.at q up
  | false => exact Heap.IsTuple.at q up
theorem isSeq.lt {d : Bool × Nat × Array Value} {h : Heap} (q : isSeq d h) : d.2.1 < h.objs.size := by
  obtain ⟨b, l, xs⟩ := d
  cases b with
  | true => obtain ⟨o, e, _⟩ := (show h.IsList l xs from q); exact Heap.lt_size e
  | false => obtain ⟨o, e, _⟩ := (show h.IsTuple l xs from q); exact Heap.lt_size e
theorem iter_seq {prog : Program} {w : World} {A : Around} {E : Value → Shared → Prop} {s : Shared} {d : Bool × Nat × Array Value} {Q : Value → Shared → Prop} (q : isSeq d s.heap)
    (h : ∀ g, (Zc.mk d.1 s.heap.objs.size d.2.1 d.2.2).St 0 g → g.objs.size = s.heap.objs.size + 1 → (∀ b o, s.heap.get? b = some o → g.get? b = some o) → Q (.ref s.heap.objs.size) { s with heap := g }) :
    wpAny (model prog w) A (pyIter (.ref d.2.1)) Q E s := by
  obtain ⟨b, l, xs⟩ := d
  cases b with
  | true =>
    refine wpAny_pyIter_list (show s.heap.IsList l xs from q) (h _ ?_ (Heap.size_push ..) fun b o e => Heap.get?_push_of_some _ e)
    exact (show Heap.IsListIter _ s.heap.objs.size l 0 from ⟨_, Heap.get?_push_size _ rfl, rfl, rfl⟩)
  | false =>
    refine wpAny_pyIter_tuple (show s.heap.IsTuple l xs from q) (h _ ?_ (Heap.size_push ..) fun b o e => Heap.get?_push_of_some _ e)
    exact (show Heap.IsTupleIter _ s.heap.objs.size l 0 from ⟨_, Heap.get?_push_size _ rfl, rfl, rfl⟩)
theorem meets_zipN (ds : List (Bool × Nat × Array Value)) (hl : ds.length ≤ sizeLine) :
    Meets (Builtin.«zip.__new__» ⟨.type "zip" :: ds.map fun d => Value.ref d.2.1, []⟩) (fun _ R s => (∀ d ∈ ds, isSeq d s.heap) ∧
      ∀ g, (∀ b o, s.heap.get? b = some o → g.get? b = some o) → g.objs.size = s.heap.objs.size + ds.length + 3 → Zn (s.heap.objs.size + ds.length + 2) (s.heap.objs.size + ds.length) (s.heap.objs.size + ds.length + 1) (mkZ s.heap.objs.size ds) 0 g →
        R (.ok (.ret (.ref (s.heap.objs.size + ds.length + 2)))) { s with heap := g }) :=
  .of_wp fun prog w A R s h => by
    obtain ⟨hp, g, d, tk, os⟩ := s; obtain ⟨hl1, h⟩ := h
    have hsub := sub_zip
    unfold Builtin.«zip.__new__»
    repeat (any_goals (first | assumption | wp_step))
    dsimp only at hl1 h
    show wpAny _ _ (forIn (List.map (fun d => Value.ref d.2.1) ds) (#[] : Array Value) fun x its => (do let v ← holding its.toList (pyIter x); pure (ForInStep.yield (its.push v)) : Sem (ForInStep (Array Value)))) _ _ _
    refine wpAny_forIn_list _ (fun rest its s' => ∃ done todo h, ds = done ++ todo ∧ rest = todo.map (fun d => Value.ref d.2.1) ∧ its = ((mkZ hp.objs.size done).map fun c => Value.ref c.it).toArray ∧ s' = ⟨h, g, d, tk, os⟩ ∧ h.objs.size = hp.objs.size + done.length ∧
      (∀ c ∈ mkZ hp.objs.size done, c.St 0 h) ∧ ∀ b o, hp.get? b = some o → h.get? b = some o) _ ?_ ?_ _ _ ?_
    · rintro x rest its s' ⟨done, todo, h0, ed, er, rfl, rfl, sz, st, up⟩
      cases todo with
      | nil => cases er
      | cons e todo =>
        obtain ⟨e1, e2⟩ := List.cons.inj er
        subst e1
        refine wpAny_bind (wpAny_holding (iter_seq (s := ⟨h0, g, d, tk, os⟩) ((hl1 e (by rw [ed]; simp)).at fun o => up _ o) fun g1 s1 z1 u1 => wpAny_pure ?_))
        dsimp only at s1 z1 u1
        have e3 : mkZ hp.objs.size (done ++ [e]) = mkZ hp.objs.size done ++ [⟨e.1, hp.objs.size + done.length, e.2.1, e.2.2⟩] := mkZ_app done [e] _
        refine ⟨done ++ [e], todo, g1, by rw [ed]; simp, e2, ?_, rfl, by rw [z1, sz, List.length_append]; rfl, fun c hc => ?_, fun b o q => u1 b o (up b o q)⟩
        · rw [e3, List.map_append]
          simp [sz]
        · rw [e3] at hc
          rcases List.mem_append.mp hc with hc | hc
          · exact Zc.stAt (st c hc) fun o => u1 _ o
          · rw [List.mem_singleton.mp hc, ← sz]
            exact s1
    · rintro its s' ⟨done, todo, h0, ed, er, rfl, rfl, sz, st, up⟩
      cases todo with
      | cons c todo => cases er
      | nil =>
        have ecs : done = ds := by rw [ed, List.append_nil]
        subst ecs
        refine wpAny_pure ?_
        refine wpAny_bind (wpAny_newTuple ?_ (by simpa [mkZ_len] using hl))
        refine wpAny_bind (wpAny_newTuple ?_ (by simpa [mkZ_len] using hl))
        show wpAny _ _ (Builtin.SmallTypes.newRecord _ _ >>= _) _ _ _
        unfold Builtin.SmallTypes.newRecord
        refine wpAny_bind ?_
        dsimp only
        refine wpAny_newObj_type ?_ (by show (5 : Nat) ≤ sizeLine + 2; decide)
        refine wpAny_pure ?_
        refine ⟨_, rfl, ?_⟩
        have n1 : (mkZ hp.objs.size done).length = done.length := mkZ_len _ _
        generalize hB : (List.map (fun x => Value.none) (List.map (fun c => Value.ref c.it) (mkZ hp.objs.size done))).toArray = A2
        have hB2 : A2.size = done.length := by rw [← hB]; simp [n1]
        generalize hA : (List.map (fun c => Value.ref c.it) (mkZ hp.objs.size done)).toArray = A1
        dsimp only
        have z1 : (h0.push { cls := .type "tuple", data := .seq A1 }).objs.size = hp.objs.size + done.length + 1 := by rw [Heap.size_push, sz]
        have z2 : ((h0.push { cls := .type "tuple", data := .seq A1 }).push { cls := .type "tuple", data := .seq A2 }).objs.size = hp.objs.size + done.length + 2 := by rw [Heap.size_push, z1]
        rw [z2, z1, sz]
        refine h _ (fun b o e => Heap.get?_push_of_some _ (Heap.get?_push_of_some _ (Heap.get?_push_of_some _ (up b o e)))) (by rw [Heap.size_push, z2]) ⟨?_, ⟨A2, ?_, by rw [hB2, n1]⟩, ⟨.none, false, .inl rfl, ?_⟩, fun c hc => Zc.stAt (st c hc) fun o e => Heap.get?_push_of_some _ (Heap.get?_push_of_some _ (Heap.get?_push_of_some _ e))⟩
        · rw [hA]
          have e : (h0.push { cls := .type "tuple", data := .seq A1 }).get? h0.objs.size = some (tupO A1) := Heap.get?_push_size _ rfl
          rw [sz] at e
          exact Heap.get?_push_of_some _ (Heap.get?_push_of_some _ e)
        · have e : ((h0.push { cls := .type "tuple", data := .seq A1 }).push { cls := .type "tuple", data := .seq A2 }).get? (h0.push { cls := .type "tuple", data := .seq A1 }).objs.size = some (tupO A2) := Heap.get?_push_size _ rfl
          rw [z1] at e
          exact Heap.get?_push_of_some _ e
        · have e := Heap.get?_push_size ((h0.push { cls := .type "tuple", data := .seq A1 }).push { cls := .type "tuple", data := .seq A2 }) (o := zipO .none false (hp.objs.size + done.length) (hp.objs.size + done.length + 1)) rfl
          rw [z2] at e
          exact e
    · exact ⟨[], ds, hp, rfl, rfl, rfl, rfl, rfl, (fun _ z => nomatch z), fun _ _ e => e⟩
theorem mkZ_apart {hp : Heap} {ds : List (Bool × Nat × Array Value)} (hl1 : ∀ d ∈ ds, isSeq d hp) (hne : ds ≠ []) : ZnA (hp.objs.size + ds.length + 2) (hp.objs.size + ds.length) (hp.objs.size + ds.length + 1) (mkZ hp.objs.size ds) where
  TIz := fun z => by have z : (hp.objs.size + ds.length : Nat) = hp.objs.size + ds.length + 2 := z; omega
  TOz := fun z => by have z : (hp.objs.size + ds.length + 1 : Nat) = hp.objs.size + ds.length + 2 := z; omega
  TITO := fun z => by have z : (hp.objs.size + ds.length : Nat) = hp.objs.size + ds.length + 1 := z; omega
  itz := fun c hc => by have := mkZ_it ds _ c hc; omega
  itTI := fun c hc => by have := mkZ_it ds _ c hc; omega
  itTO := fun c hc => by have := mkZ_it ds _ c hc; omega
  lz := fun c hc => by
    obtain ⟨_, _, d, hd, _, e, _⟩ := mkZ_it ds _ c hc
    have : d.2.1 < hp.objs.size := (hl1 d hd).lt
    rw [e]; omega
  lTO := fun c hc => by
    obtain ⟨_, _, d, hd, _, e, _⟩ := mkZ_it ds _ c hc
    have : d.2.1 < hp.objs.size := (hl1 d hd).lt
    rw [e]; omega
  lit := fun c hc c2 hc2 => by
    obtain ⟨_, _, d, hd, _, e, _⟩ := mkZ_it ds _ c hc
    have : d.2.1 < hp.objs.size := (hl1 d hd).lt
    have := (mkZ_it ds _ c2 hc2).1
    rw [e]; omega
  nd := mkZ_nd ds _
  ne := fun z => hne (by
    have := mkZ_len ds hp.objs.size
    rw [z] at this
    exact List.eq_nil_of_length_eq_zero this.symm)
theorem mkZ_C {hp g : Heap} {ds : List (Bool × Nat × Array Value)} (hl1 : ∀ d ∈ ds, isSeq d hp) (up : ∀ b o, hp.get? b = some o → g.get? b = some o) (n : Nat) : ∀ c ∈ mkZ n ds, c.C g := fun c hc => by
  obtain ⟨_, _, d, hd, e1, e2, e3⟩ := mkZ_it ds _ c hc
  have := (hl1 d hd).at fun o => up _ o
  obtain ⟨b, it, l, xs⟩ := c
  obtain ⟨b', l', xs'⟩ := d
  cases e1
  cases e2
  cases e3
  exact this
section
variable {prog : Program} {w : World} {A : Around} {E : Value → Shared → Prop} {s : Shared}
theorem call_zipN {ds : List (Bool × Nat × Array Value)} {Q : Value → Shared → Prop} (h1 : ∀ d ∈ ds, isSeq d s.heap) (hl : ds.length ≤ 20)
    (h : ∀ g, (∀ b o, s.heap.get? b = some o → g.get? b = some o) → g.objs.size = s.heap.objs.size + ds.length + 3 → Zn (s.heap.objs.size + ds.length + 2) (s.heap.objs.size + ds.length) (s.heap.objs.size + ds.length + 1) (mkZ s.heap.objs.size ds) 0 g →
      Q (.ref (s.heap.objs.size + ds.length + 2)) { s with heap := g }) :
    wpAny (model prog w) A (call (.type "zip") (ds.map fun d => Value.ref d.2.1)) Q E s := by
  refine callType_new F.called_zip (by decide) (by kernel_rfl) (zn_new _ (by rw [List.length_map]; exact hl)) (fun obj => zn_init obj _ (by rw [List.length_map]; exact hl)) F.entry_zip_new
    (meets_zipN ds (Nat.le_trans hl (by decide))) ⟨h1, fun g a1 a2 a3 => ?_⟩
  obtain ⟨_, _, _, hz⟩ := a3.zz
  exact ⟨⟨_, hz, rfl⟩, h g a1 a2 a3⟩
theorem looks_ty {h : Heap} {T : String} : PySem.W.Looks (model prog w) h (keeperOf (.type T)) Keeper.machine := fun _ _ _ _ _ q => wpAny_pure q
theorem callWith_typeS {env : Env} {e : Expr} {p pos : Pos} {T : String} {Q : Value → Shared → Prop} (h : wpAny (model prog w) A (eval e env) (fun v s₁ => PySem.W.StarOf (model prog w) A E v (fun vs s₂ => wpAny (model prog w) A (call (.type T) vs) Q E s₂) s₁) E s)
    (he : starEach [.Starred e p] env = [(true, eval e env)] := by rfl) :
    wpAny (model prog w) A (callWith pos (.type T) [] (backTo pos (starEach [.Starred e p] env)) []) Q E s := by
  rw [he]
  refine PySem.W.ks_call (P := fun _ => True) rfl (fun h _ => ⟨_, .inr (.inl rfl), looks_ty⟩) (PySem.W.ks_lone (wpAny_mono h (fun v s1 h1 => ?_) fun _ _ x => x))
  unfold PySem.W.StarOf at h1 ⊢
  exact wpAny_mono h1 (fun b s2 hb => ⟨hb.1, wpAny_mono hb.2 (fun _ _ q => ⟨trivial, q⟩) fun _ _ x => x⟩) fun _ _ x => x
end
/-- list or tuple -/
def SqB (K : PySem.W.Frag) (H : Hp) (d : Bool × Addr × List V) : Prop := if d.1 = true then SqL K H d.2.1 d.2.2 else SqT K H d.2.1 d.2.2
/-- all of ds walked together -/
def ItzN (K : PySem.W.Frag) (ds : List (Bool × Addr × List V)) : It :=
  ⟨fun i H => ∀ d ∈ ds, SqB K H d ∧ i < d.2.2.length,
    fun i H v H' => ∃ T, v = .ref T ∧ H T = none ∧ ∃ o : Obj, o.dict = none ∧ H' = upd H T (.frz o (.tup (ds.map fun d => d.2.2[i]?.getD .non))),
    fun i H => (∀ d ∈ ds, SqB K H d) ∧ ∃ d ∈ ds, d.2.2.length ≤ i⟩
theorem sqb_is {X : Cx} {pins : List (Addr × Obj)} {σ : L2.St} {H : Hp} {s : Shared} (I : Inv X pins σ H s) {d : Bool × Addr × List V} (h : SqB X.K H d) : ∃ its, Vals d.2.2 its ∧ isSeq (d.1, d.2.1, its.toArray) s.heap := by
  obtain ⟨b, l, xs⟩ := d
  cases b with
  | true =>
    obtain ⟨its, rv, p1, _⟩ := I.list h
    exact ⟨its, rv, p1.isList⟩
  | false =>
    obtain ⟨its, rv, p1, _⟩ := I.tuple h
    exact ⟨its, rv, p1⟩
/-- what stands in the heap beside what is told of it -/
inductive Mt : List (Bool × Addr × List V) → List (Bool × Nat × Array Value) → Prop
  | nil : Mt [] []
  | cons {b : Bool} {l : Addr} {xs : List V} {its : List Value} {ds : List (Bool × Addr × List V)} {es : List (Bool × Nat × Array Value)} : Vals xs its → Mt ds es → Mt ((b, l, xs) :: ds) ((b, l, its.toArray) :: es)
theorem mt_of {X : Cx} {pins : List (Addr × Obj)} {σ : L2.St} {H : Hp} {s : Shared} (I : Inv X pins σ H s) : ∀ (ds : List (Bool × Addr × List V)), (∀ d ∈ ds, SqB X.K H d) → ∃ es, Mt ds es ∧ ∀ e ∈ es, isSeq e s.heap
  | [], _ => ⟨[], .nil, fun _ z => nomatch z⟩
  | d :: ds, h => by
    obtain ⟨its, rv, q⟩ := sqb_is I (h d List.mem_cons_self)
    obtain ⟨es, m, q2⟩ := mt_of I ds fun d hd => h d (List.mem_cons_of_mem _ hd)
    exact ⟨_, .cons rv m, fun e he => (List.mem_cons.mp he).elim (fun z => z ▸ q) (q2 e)⟩
theorem Mt.len : ∀ {ds : List (Bool × Addr × List V)} {es : List (Bool × Nat × Array Value)}, Mt ds es → ds.length = es.length
  | _, _, .nil => rfl
  | _, _, .cons _ m => by simp [m.len]
theorem Mt.refs : ∀ {ds : List (Bool × Addr × List V)} {es : List (Bool × Nat × Array Value)}, Mt ds es → es.map (fun d => Value.ref d.2.1) = ds.map fun d => Value.ref d.2.1
  | _, _, .nil => rfl
  | _, _, .cons _ m => by simp [m.refs]
theorem Mt.vals {i : Nat} {n : Nat} : ∀ {ds : List (Bool × Addr × List V)} {es : List (Bool × Nat × Array Value)}, Mt ds es → (∀ d ∈ ds, i < d.2.2.length) → ∀ n, Vals (ds.map fun d => d.2.2[i]?.getD .non) ((mkZ n es).map (·.val i)) ∧ ∀ c ∈ mkZ n es, i < c.xs.size
  | _, _, .nil, _, _ => ⟨.nil, fun _ z => nomatch z⟩
  | _, _, .cons (xs := xs) (its := its) rv m, h, n => by
    obtain ⟨m1, m2⟩ := m.vals (i := i) (n := n + 1) (fun d hd => h d (List.mem_cons_of_mem _ hd)) (n + 1)
    have hi : i < xs.length := h _ List.mem_cons_self
    have hx : xs[i]? = some xs[i] := List.getElem?_eq_getElem hi
    obtain ⟨u, hu, ru⟩ := rv.get hx
    have hl : xs.length = its.length := rv.length
    refine ⟨.cons ?_ m1, fun c hc => ?_⟩
    · show RelV (xs[i]?.getD .non) (its.toArray[i]?.getD .none)
      rw [hx]
      have : its.toArray[i]? = some u := by simpa using hu
      rw [this]
      exact ru
    · rcases List.mem_cons.mp hc with rfl | hc
      · show i < its.toArray.size
        rw [List.size_toArray]; omega
      · exact m2 c hc
theorem Mt.fin {i : Nat} : ∀ {ds : List (Bool × Addr × List V)} {es : List (Bool × Nat × Array Value)}, Mt ds es → (∃ d ∈ ds, d.2.2.length ≤ i) → ∀ n, ∃ c ∈ mkZ n es, c.xs[i]? = none
  | _, _, .nil, h, _ => by obtain ⟨_, z, _⟩ := h; cases z
  | _, _, .cons (xs := xs) (its := its) rv m, h, n => by
    obtain ⟨d, hd, h⟩ := h
    rcases List.mem_cons.mp hd with rfl | hd
    · have hl : xs.length = its.length := rv.length
      have h : xs.length ≤ i := h
      exact ⟨_, List.mem_cons_self, Array.getElem?_eq_none (by rw [List.size_toArray]; omega)⟩
    · obtain ⟨c, hc, e⟩ := m.fin ⟨d, hd, h⟩ (n + 1)
      exact ⟨c, List.mem_cons_of_mem _ hc, e⟩
/-- what keeps the zip's own things, all of them -/
def fpN (base n : Nat) : List Addr := (base + n + 2) :: (base + n) :: (base + n + 1) :: (List.range n).map fun j => base + j
theorem fpN_mem {base n : Nat} {es : List (Bool × Nat × Array Value)} (hn : es.length = n) {b : Addr} (h : b = base + n + 2 ∨ b = base + n ∨ b = base + n + 1 ∨ b ∈ (mkZ base es).map (·.it)) : b ∈ fpN base n := by
  unfold fpN
  rcases h with h | h | h | h
  · rw [h]; exact List.mem_cons_self
  · rw [h]; exact List.mem_cons_of_mem _ List.mem_cons_self
  · rw [h]; exact List.mem_cons_of_mem _ (List.mem_cons_of_mem _ List.mem_cons_self)
  · obtain ⟨c, hc, rfl⟩ := List.mem_map.mp h
    obtain ⟨h1, h2, _⟩ := mkZ_it es base c hc
    exact List.mem_cons_of_mem _ (List.mem_cons_of_mem _ (List.mem_cons_of_mem _ (List.mem_map.mpr ⟨c.it - base, List.mem_range.mpr (by omega), by show base + (c.it - base) = c.it; omega⟩)))
theorem mkZ_all : ∀ (es : List (Bool × Nat × Array Value)) (n j : Nat), j < es.length → ∃ c ∈ mkZ n es, c.it = n + j
  | [], _, _, h => nomatch h
  | e :: es, n, 0, _ => ⟨_, List.mem_cons_self, rfl⟩
  | e :: es, n, j + 1, h => by
    obtain ⟨c, hc, h2⟩ := mkZ_all es (n + 1) j (by simpa using h)
    exact ⟨c, List.mem_cons_of_mem _ hc, by omega⟩
theorem St.isObj {c : Zc} {k : Nat} {h : Heap} (st : c.St k h) : ∃ o, h.get? c.it = some o ∧ ∀ v, o.data ≠ .cell v := by
  obtain ⟨b, it, l, xs⟩ := c
  cases b with
  | true =>
    obtain ⟨o, e, _, d⟩ := (show Heap.IsListIter h it l k from st)
    exact ⟨o, e, fun v q => by rw [d] at q; cases q⟩
  | false =>
    obtain ⟨o, e, _, d⟩ := (show Heap.IsTupleIter h it l k from st)
    exact ⟨o, e, fun v q => by rw [d] at q; cases q⟩
theorem St.swap {b : Bool} {it l : Nat} {xs ys : Array Value} {k : Nat} {h : Heap} (st : (Zc.mk b it l xs).St k h) : (Zc.mk b it l ys).St k h := st
theorem mt_swap {k : Nat} {h : Heap} : ∀ {ds : List (Bool × Addr × List V)} {es es' : List (Bool × Nat × Array Value)}, Mt ds es → Mt ds es' → ∀ n, (∀ c ∈ mkZ n es, c.St k h) → (∀ c ∈ mkZ n es', c.St k h) ∧ (mkZ n es').map (·.it) = (mkZ n es).map (·.it)
  | _, _, _, .nil, .nil, _, _ => ⟨(fun _ z => nomatch z), rfl⟩
  | _, _, _, .cons _ m, .cons _ m', n, st => by
    obtain ⟨h1, h2⟩ := mt_swap m m' (n + 1) fun c hc => st c (List.mem_cons_of_mem _ hc)
    refine ⟨fun c hc => ?_, ?_⟩
    · rcases List.mem_cons.mp hc with rfl | hc
      · exact St.swap (st _ List.mem_cons_self)
      · exact h1 c hc
    · show n :: _ = n :: _
      rw [h2]
theorem zn_swap {z TI TO : Addr} {k n : Nat} {h : Heap} {ds : List (Bool × Addr × List V)} {es es' : List (Bool × Nat × Array Value)} (m : Mt ds es) (m' : Mt ds es') (st : Zn z TI TO (mkZ n es) k h) : Zn z TI TO (mkZ n es') k h := by
  obtain ⟨h1, h2⟩ := mt_swap m m' n st.st
  have h3 : (mkZ n es').map (fun c => Value.ref c.it) = (mkZ n es).map fun c => Value.ref c.it := by
    have := congrArg (List.map Value.ref) h2
    rw [List.map_map, List.map_map] at this
    exact this
  have hl : (mkZ n es').length = (mkZ n es).length := by rw [mkZ_len, mkZ_len, ← m.len, ← m'.len]
  exact ⟨by rw [h3]; exact st.ti, by rw [hl]; exact st.to, st.zz, h1⟩
/-- the zip at work: what stood in the lists as it began does not matter -/
def TnN (z TI TO : Addr) (base : Nat) (sh : List (Bool × Addr)) (i : Nat) (h : Heap) : Prop := ∃ es : List (Bool × Nat × Array Value), es.map (fun e => (e.1, e.2.1)) = sh ∧ Zn z TI TO (mkZ base es) i h
theorem Mt.sh : ∀ {ds : List (Bool × Addr × List V)} {es : List (Bool × Nat × Array Value)}, Mt ds es → es.map (fun e => (e.1, e.2.1)) = ds.map fun d => (d.1, d.2.1)
  | _, _, .nil => rfl
  | _, _, .cons _ m => by simp [m.sh]
theorem sh_swap {k : Nat} {h : Heap} : ∀ {es es' : List (Bool × Nat × Array Value)}, es.map (fun e => (e.1, e.2.1)) = es'.map (fun e => (e.1, e.2.1)) → ∀ n, (∀ c ∈ mkZ n es, c.St k h) → (∀ c ∈ mkZ n es', c.St k h) ∧ (mkZ n es').map (·.it) = (mkZ n es).map (·.it)
  | [], [], _, _, _ => ⟨(fun _ z => nomatch z), rfl⟩
  | [], _ :: _, e, _, _ => by simp at e
  | _ :: _, [], e, _, _ => by simp at e
  | (b, l, xs) :: es, (b', l', xs') :: es', e, n, st => by
    simp only [List.map_cons, List.cons.injEq, Prod.mk.injEq] at e
    obtain ⟨⟨rfl, rfl⟩, e⟩ := e
    obtain ⟨h1, h2⟩ := sh_swap e (n + 1) fun c hc => st c (List.mem_cons_of_mem _ hc)
    refine ⟨fun c hc => ?_, ?_⟩
    · rcases List.mem_cons.mp hc with rfl | hc
      · exact St.swap (st _ List.mem_cons_self)
      · exact h1 c hc
    · show n :: _ = n :: _
      rw [h2]
theorem TnN.to {z TI TO : Addr} {base : Nat} {sh : List (Bool × Addr)} {i : Nat} {h : Heap} {es : List (Bool × Nat × Array Value)} (t : TnN z TI TO base sh i h) (e : es.map (fun e => (e.1, e.2.1)) = sh) : Zn z TI TO (mkZ base es) i h := by
  obtain ⟨es0, e0, st⟩ := t
  obtain ⟨h1, h2⟩ := sh_swap (e0.trans e.symm) base st.st
  have h3 : (mkZ base es).map (fun c => Value.ref c.it) = (mkZ base es0).map fun c => Value.ref c.it := by
    have := congrArg (List.map Value.ref) h2
    rw [List.map_map, List.map_map] at this
    exact this
  have hl : (mkZ base es).length = (mkZ base es0).length := by
    have := congrArg List.length h2
    simpa using this
  exact ⟨by rw [h3]; exact st.ti, by rw [hl]; exact st.to, st.zz, h1⟩
theorem go_name {M : Model} {A : Around} {E : Value → Shared → Prop} {s : Shared} {x : Str} {p : Pos} {it u : Value} {Q : Unit → Shared → Prop} (hQ : Q () s) : wpAny M A (letOwnedTupleGo (.Name x p) it u) Q E s := by
  unfold letOwnedTupleGo
  exact wpAny_pure hQ
/-- a target of this form -/
def TgZ (tg : Expr) : Prop := (∃ x p, tg = .Name x p) ∨ ∃ es k p, tg = .Tuple es k p
theorem go_zip {prog : Program} {w : World} {A : Around} {E : Value → Shared → Prop} {s : Shared} {tg : Expr} (ht : TgZ tg) {z TI TO T : Addr} {cs : List Zc} {k : Nat} (st : Zn z TI TO cs k s.heap) (D : ZnA z TI TO cs) {Q : Unit → Shared → Prop}
    (q : ∀ g, Zn z TI TO cs k g → Heap.SameBut z s.heap g → Q () { s with heap := g }) : wpAny (model prog w) A (letOwnedTupleGo tg (.ref z) (.ref T)) Q E s := by
  rcases ht with ⟨x, p, rfl⟩ | ⟨es, kk, p, rfl⟩
  · exact go_name (q s.heap st (Heap.SameBut.refl z s.heap))
  · obtain ⟨f0, f1, hf, hz⟩ := st.zz
    unfold letOwnedTupleGo
    refine wpAny_bind (wpAny_load hz ?_)
    show wpAny (model prog w) A (if (["enumerate", "zip", "dict_itemiterator", "dict_reverseitemiterator", "odict_iterator", "itertools.zip_longest", "itertools.pairwise"].contains "zip" && (#[f0, .bool f1, .bool false, .ref TI, .ref TO] : Array Value)[0]? == some (rawInt T)) = true then _ else _) Q E s
    split
    · refine wpAny_bind (wpAny_rule ?_)
      unfold updateField
      refine wpAny_bind (wpAny_load hz ?_)
      show wpAny (model prog w) A (if 0 < (#[f0, .bool f1, .bool false, .ref TI, .ref TO] : Array Value).size then _ else _) Q E s
      rw [if_pos (show 0 < (#[f0, .bool f1, .bool false, .ref TI, .ref TO] : Array Value).size from by show 0 < 5; decide)]
      refine wpAny_update hz ?_
      have sb := Heap.SameBut.update s.heap z (Obj.mapFields fun x => x.setIfInBounds 0 .none)
      refine q _ ?_ sb
      have old : ∀ b, b ≠ z → ∀ o, s.heap.get? b = some o → (s.heap.update z (Obj.mapFields fun x => x.setIfInBounds 0 .none)).get? b = some o := fun b nb o e => by rw [sb.2 b nb]; exact e
      obtain ⟨arr, h1, h2⟩ := st.to
      refine ⟨old TI D.TIz _ st.ti, ⟨arr, old TO D.TOz _ h1, h2⟩, ⟨.none, f1, .inl rfl, ?_⟩, fun c hc => Zc.stAt (st.st c hc) fun o e => old _ (D.itz c hc) o e⟩
      exact Heap.get?_update_self _ hz rfl
    · exact wpAny_pure (q s.heap st (Heap.SameBut.refl z s.heap))
theorem turn_zipN {P : Program} {w : World} {K : PySem.W.Frag} {tg : Expr} (htg : TgZ tg) {base : Nat} {ds : List (Bool × Addr × List V)} (hne : ds ≠ []) (hl : ds.length ≤ 20) (hlt : ∀ d ∈ ds, d.2.1 < base) :
    Turn P w K tg (ItzN K ds) (fpN base ds.length) (base + ds.length + 2) (TnN (base + ds.length + 2) (base + ds.length) (base + ds.length + 1) base (ds.map fun d => (d.1, d.2.1))) where
  mem := List.mem_cons_self
  obj := fun i h st c hc => by
    obtain ⟨es, esh, st⟩ := st
    have hn : es.length = ds.length := by
      have := congrArg List.length esh
      simpa using this
    rcases List.mem_cons.mp hc with rfl | hc
    · obtain ⟨f0, f1, _, hz⟩ := st.zz
      exact ⟨_, hz, fun v q => nomatch q⟩
    · rcases List.mem_cons.mp hc with rfl | hc
      · exact ⟨_, st.ti, fun v q => nomatch q⟩
      · rcases List.mem_cons.mp hc with rfl | hc
        · obtain ⟨arr, h1, _⟩ := st.to
          exact ⟨_, h1, fun v q => nomatch q⟩
        · obtain ⟨j, hj, rfl⟩ := List.mem_map.mp hc
          obtain ⟨c, hc2, e⟩ := mkZ_all es base j (by rw [hn]; exact List.mem_range.mp hj)
          rw [← e]
          exact St.isObj (st.st c hc2)
  keep := fun i h h' st k => by
    obtain ⟨es, esh, st⟩ := st
    have hn : es.length = ds.length := by
      have := congrArg List.length esh
      simpa using this
    exact ⟨es, esh, st.keep fun b hb => k b (fpN_mem hn hb)⟩
  item := by
    intro X hP hw hK hc i pins s σ H E I hf st hg
    subst hP hw hK
    obtain ⟨es, m, q⟩ := mt_of I ds fun d hd => (hg d hd).1
    have hn : es.length = ds.length := m.len.symm
    have st' := st.to m.sh
    have nes : es ≠ [] := fun z => hne (List.eq_nil_of_length_eq_zero (by rw [← hn, z]; rfl))
    have hbl : base + ds.length + 2 < s.heap.objs.size := by
      obtain ⟨_, _, _, hz⟩ := st'.zz
      exact Heap.lt_size hz
    obtain ⟨m1, m2⟩ := m.vals (i := i) (n := base) (fun d hd => (hg d hd).2) base
    have D : ZnA (base + ds.length + 2) (base + ds.length) (base + ds.length + 1) (mkZ base es) := by
      refine ⟨fun z => by have z : (base + ds.length : Nat) = base + ds.length + 2 := z; omega, fun z => by have z : (base + ds.length + 1 : Nat) = base + ds.length + 2 := z; omega, fun z => by have z : (base + ds.length : Nat) = base + ds.length + 1 := z; omega,
        fun c hc => by have := mkZ_it es _ c hc; omega, fun c hc => by have := mkZ_it es _ c hc; omega, fun c hc => by have := mkZ_it es _ c hc; omega, fun c hc => ?_, fun c hc => ?_, fun c hc c2 hc2 => ?_, mkZ_nd es _, fun z => nes (by
        have := mkZ_len es base
        rw [z] at this
        exact List.eq_nil_of_length_eq_zero this.symm)⟩
      all_goals
        obtain ⟨_, _, e, he, _, e2, _⟩ := mkZ_it es _ c hc
        have : (e.1, e.2.1) ∈ ds.map fun d => (d.1, d.2.1) := by rw [← m.sh]; exact List.mem_map.mpr ⟨e, he, rfl⟩
        obtain ⟨d, hd, ed⟩ := List.mem_map.mp this
        have ed2 : d.2.1 = e.2.1 := congrArg Prod.snd ed
        have lt := hlt d hd
        have lt : e.2.1 < base := by rw [← ed2]; exact lt
        rw [e2]
      · omega
      · omega
      · have := (mkZ_it es _ c2 hc2).1
        omega
    refine zn_nx D st' (mkZ_C q (fun _ _ e => e) base) m2 (by rw [mkZ_len, hn]; exact Nat.le_trans hl (by decide)) fun g0 b1 b2 b3 b4 => ?_
    refine ⟨_, rfl, go_zip htg (s := { s with heap := g0 }) b1 D fun g a1 sbz => ?_⟩
    have nz : ∀ b, b ≠ base + ds.length + 2 → ∀ o, g0.get? b = some o → g.get? b = some o := fun b nb o e => by rw [sbz.2 b nb]; exact e
    have a2 := nz _ (Nat.ne_of_gt hbl) _ b2
    have a4 : ∀ b o, b ≠ base + ds.length + 2 → b ≠ base + ds.length + 1 → b ∉ (mkZ base es).map (·.it) → s.heap.get? b = some o → g.get? b = some o := fun b o n1 n2 n3 e => nz b n1 o (b4 b o n1 n2 n3 e)
    have kp : ∀ c o, c ∉ fpN base ds.length → s.heap.get? c = some o → g.get? c = some o := fun c o hb e =>
      a4 c o (fun z => hb (fpN_mem hn (.inl z))) (fun z => hb (fpN_mem hn (.inr (.inr (.inl z))))) (fun z => hb (fpN_mem hn (.inr (.inr (.inr z))))) e
    have hfl : ∀ c ∈ fpN base ds.length, c < s.heap.objs.size := fun c hc => by
      have hbl : base + ds.length + 2 < s.heap.objs.size := hbl
      unfold fpN at hc
      rcases List.mem_cons.mp hc with z | hc
      · rw [z]; exact hbl
      · rcases List.mem_cons.mp hc with z | hc
        · rw [z]; exact Nat.lt_of_le_of_lt (by omega) hbl
        · rcases List.mem_cons.mp hc with z | hc
          · rw [z]; exact Nat.lt_of_le_of_lt (by omega) hbl
          · obtain ⟨j, hj, z⟩ := List.mem_map.mp hc
            have := List.mem_range.mp hj
            rw [← z]; exact Nat.lt_of_le_of_lt (by omega) hbl
    obtain ⟨ob, o1, o2, o3, o4⟩ : ∃ ob : Obj, g.get? s.heap.objs.size = some ob ∧ ob.dict = none ∧ ob.cls = .type "tuple" ∧ ∃ m, ob.data = .seq ((mkZ base es).map (·.val i)).toArray m := ⟨_, a2, rfl, rfl, _, rfl⟩
    have new : ObjOk X.prog X.w (upd H s.heap.objs.size (.frz ob (.tup (ds.map fun d => d.2.2[i]?.getD .non)))) g s.heap.objs.size (.frz ob (.tup (ds.map fun d => d.2.2[i]?.getD .non))) := by
      refine ⟨o1, by rw [List.length_map]; exact Nat.le_trans hl (by decide), _, m1, ⟨_, o1, o3, o4⟩⟩
    have I1 : Inv X pins σ (upd H s.heap.objs.size (.frz ob (.tup (ds.map fun d => d.2.2[i]?.getD .non)))) { s with heap := g } := I.turnedNew (t' := s.toks) (ch := fpN base ds.length) kp hf (Nat.le_refl _) new
    exact ⟨.ref s.heap.objs.size, _, I1, rfl, ⟨_, rfl, I.hok.fresh (Nat.le_refl _), ob, o2, rfl⟩, ⟨es, m.sh, a1⟩, fun c hcm => by
      rw [upd_ne (Nat.ne_of_lt (hfl c hcm))]
      exact (hf c hcm).1⟩
  done := by
    intro X hP hw hK hc i pins s σ H E I hf st hg
    subst hP hw hK
    obtain ⟨es, m, q⟩ := mt_of I ds hg.1
    have hn : es.length = ds.length := m.len.symm
    have st' := st.to m.sh
    have nes : es ≠ [] := fun z => hne (List.eq_nil_of_length_eq_zero (by rw [← hn, z]; rfl))
    have D : ZnA (base + ds.length + 2) (base + ds.length) (base + ds.length + 1) (mkZ base es) := by
      refine ⟨fun z => by have z : (base + ds.length : Nat) = base + ds.length + 2 := z; omega, fun z => by have z : (base + ds.length + 1 : Nat) = base + ds.length + 2 := z; omega, fun z => by have z : (base + ds.length : Nat) = base + ds.length + 1 := z; omega,
        fun c hc => by have := mkZ_it es _ c hc; omega, fun c hc => by have := mkZ_it es _ c hc; omega, fun c hc => by have := mkZ_it es _ c hc; omega, fun c hc => ?_, fun c hc => ?_, fun c hc c2 hc2 => ?_, mkZ_nd es _, fun z => nes (by
        have := mkZ_len es base
        rw [z] at this
        exact List.eq_nil_of_length_eq_zero this.symm)⟩
      all_goals
        obtain ⟨_, _, e, he, _, e2, _⟩ := mkZ_it es _ c hc
        have : (e.1, e.2.1) ∈ ds.map fun d => (d.1, d.2.1) := by rw [← m.sh]; exact List.mem_map.mpr ⟨e, he, rfl⟩
        obtain ⟨d, hd, ed⟩ := List.mem_map.mp this
        have ed2 : d.2.1 = e.2.1 := congrArg Prod.snd ed
        have lt := hlt d hd
        have lt : e.2.1 < base := by rw [← ed2]; exact lt
        rw [e2]
      · omega
      · omega
      · have := (mkZ_it es _ c2 hc2).1
        omega
    refine zn_no (I.ok.hd hc) D st' (mkZ_C q (fun _ _ e => e) base) (m.fin hg.2 base) (by rw [mkZ_len, hn]; exact Nat.le_trans hl (by decide)) fun g a4 => ?_
    exact ⟨rfl, I.turnedL (t' := s.toks) (ch := fpN base ds.length) (fun c o hb e =>
      a4 c o (fun z => hb (fpN_mem hn (.inl z))) (fun z => hb (fpN_mem hn (.inr (.inr (.inl z))))) (fun z => hb (fpN_mem hn (.inr (.inr (.inr z))))) e) hf⟩
  self := fun A i s Q E st h => by
    obtain ⟨es, _, st⟩ := st
    exact zn_self st h
def iZipS (K : PySem.W.Frag) (te : TE) : TI := fun σ H R => te σ H fun x H1 => ∃ (a : Addr) (ds : List (Bool × Addr × List V)), x = .ref a ∧ (SqT K H1 a (ds.map fun d => V.ref d.2.1) ∨ SqL K H1 a (ds.map fun d => V.ref d.2.1)) ∧ ds ≠ [] ∧ ds.length ≤ 20 ∧ (∀ d ∈ ds, SqB K H1 d) ∧ R (ItzN K ds) H1
theorem vals_refs2 : ∀ {as : List Addr} {us : List Value}, Vals (as.map V.ref) us → us = as.map Value.ref
  | [], _, .nil => rfl
  | a :: as, _, .cons r t => by
    cases r
    rw [vals_refs2 t]
    rfl
theorem pi_zipS {X : Cx} {e : Expr} {te : TE} {p sp pos tp : Pos} {x : Str} (hg : Gl X "zip") (hm : X.mg "zip" = none) (he : PE X e te)
    (hs : starEach [.Starred e sp] X.env = [(true, eval e X.env)] := by rfl) : PI X (.Name x tp) (.Call (.Name "zip" p) [.Starred e sp] [] pos) (iZipS X.K te) := by
  refine ⟨fun pins s σ H R I h => ?_⟩
  refine Call_ (ld_blt I hg hm PyProof.Rows.boot_zip (callWith_typeS (thn (he.run pins s σ H _ I h) fun v s1 ⟨y, H1, I1, ry, q⟩ => ?_) hs))
  obtain ⟨a, ds, ey, ha, hne, hl, hd, q⟩ := q
  subst ey
  obtain rfl : v = Value.ref a := ry
  refine StX.star_any I1 ha fun us s2 I2 rv => ?_
  have eu : us = ds.map fun d => Value.ref d.2.1 := by
    have e : ds.map (fun d => V.ref d.2.1) = (ds.map fun d => d.2.1).map V.ref := by rw [List.map_map]; rfl
    rw [e] at rv
    rw [vals_refs2 rv, List.map_map]
    rfl
  subst eu
  obtain ⟨es, m, q2⟩ := mt_of I2 ds hd
  have hn : es.length = ds.length := m.len.symm
  rw [← m.refs]
  refine call_zipN q2 (by rw [hn]; exact hl) fun g a1 a2 a3 => ?_
  rw [hn] at a2 a3 ⊢
  refine zn_self a3 ?_
  have I3 : Inv X pins σ H1 { s2 with heap := g } := I2.kept (t' := s2.toks) a1
  refine ⟨s2.heap.objs.size + ds.length + 2, fpN s2.heap.objs.size ds.length, _, _, H1, rfl, I3, turn_zipN (.inl ⟨_, _, rfl⟩) hne hl (fun d hd' => ?_), ⟨es, m.sh, a3⟩, fun c hcm => ?_, q⟩
  · have : (d.1, d.2.1) ∈ es.map fun e => (e.1, e.2.1) := by rw [m.sh]; exact List.mem_map.mpr ⟨d, hd', rfl⟩
    obtain ⟨e, he', ee⟩ := List.mem_map.mp this
    have e2 : e.2.1 = d.2.1 := congrArg Prod.snd ee
    rw [← e2]
    exact (q2 e he').lt
  · have hle : s2.heap.objs.size ≤ c := by
      unfold fpN at hcm
      rcases List.mem_cons.mp hcm with z | hc
      · rw [z]; exact Nat.le_trans (Nat.le_add_right _ ds.length) (Nat.le_add_right _ 2)
      · rcases List.mem_cons.mp hc with z | hc
        · rw [z]; exact Nat.le_add_right _ _
        · rcases List.mem_cons.mp hc with z | hc
          · rw [z]; exact Nat.le_trans (Nat.le_add_right _ ds.length) (Nat.le_add_right _ 1)
          · obtain ⟨j, hj, z⟩ := List.mem_map.mp hc
            rw [← z]; exact Nat.le_add_right _ _
    exact I2.fpOk hle (I2.hok.fresh hle)
def iZipN (K : PySem.W.Frag) (ta : TA) : TI := fun σ H R => ta σ H fun vs H1 => ∃ ds : List (Bool × Addr × List V), vs = ds.map (fun d => V.ref d.2.1) ∧ ds ≠ [] ∧ ds.length ≤ 20 ∧ (∀ d ∈ ds, SqB K H1 d) ∧ R (ItzN K ds) H1
theorem pi_zipN {X : Cx} {e : Expr} {rest : List Expr} {ta : TA} {p pos : Pos} {tg : Expr} (htg : TgZ tg) (hg : Gl X "zip") (hm : X.mg "zip" = none) (ha : PA X (e :: rest) ta)
    (hs : starEach (e :: rest) X.env = (false, eval e X.env) :: starEach rest X.env := by rfl) (hpl : (backTo pos (starEach rest X.env)).any (·.1) = false := by rfl) : PI X tg (.Call (.Name "zip" p) (e :: rest) [] pos) (iZipN X.K ta) := by
  refine ⟨fun pins s σ H R I h => ?_⟩
  refine Call_ (ld_blt I hg hm PyProof.Rows.boot_zip (PyProof.Rows.callWith_type1 (thn (ha.run pos pins s σ H _ I h) fun us s1 ⟨vs, H1, I1, rv, q⟩ => ?_) hs hpl))
  obtain ⟨ds, ev, hne, hl, hd, q⟩ := q
  subst ev
  have eu : us = ds.map fun d => Value.ref d.2.1 := by
    have e : ds.map (fun d => V.ref d.2.1) = (ds.map fun d => d.2.1).map V.ref := by rw [List.map_map]; rfl
    rw [e] at rv
    rw [vals_refs2 rv, List.map_map]
    rfl
  subst eu
  obtain ⟨es, m, q2⟩ := mt_of I1 ds hd
  have hn : es.length = ds.length := m.len.symm
  rw [← m.refs]
  refine call_zipN q2 (by rw [hn]; exact hl) fun g a1 a2 a3 => ?_
  rw [hn] at a2 a3 ⊢
  refine zn_self a3 ?_
  have I3 : Inv X pins σ H1 { s1 with heap := g } := I1.kept (t' := s1.toks) a1
  refine ⟨s1.heap.objs.size + ds.length + 2, fpN s1.heap.objs.size ds.length, _, _, H1, rfl, I3, turn_zipN htg hne hl (fun d hd' => ?_), ⟨es, m.sh, a3⟩, fun c hcm => ?_, q⟩
  · have : (d.1, d.2.1) ∈ es.map fun e => (e.1, e.2.1) := by rw [m.sh]; exact List.mem_map.mpr ⟨d, hd', rfl⟩
    obtain ⟨e, he', ee⟩ := List.mem_map.mp this
    have e2 : e.2.1 = d.2.1 := congrArg Prod.snd ee
    rw [← e2]
    exact (q2 e he').lt
  · have hle : s1.heap.objs.size ≤ c := by
      unfold fpN at hcm
      rcases List.mem_cons.mp hcm with z | hc
      · rw [z]; exact Nat.le_trans (Nat.le_add_right _ ds.length) (Nat.le_add_right _ 2)
      · rcases List.mem_cons.mp hc with z | hc
        · rw [z]; exact Nat.le_add_right _ _
        · rcases List.mem_cons.mp hc with z | hc
          · rw [z]; exact Nat.le_trans (Nat.le_add_right _ ds.length) (Nat.le_add_right _ 1)
          · obtain ⟨j, hj, z⟩ := List.mem_map.mp hc
            rw [← z]; exact Nat.le_add_right _ _
    exact I1.fpOk hle (I1.hok.fresh hle)
end DL

namespace DL
open PySem PySem.Spec PyProof PyProof.Rows L2
open Evl (Ex)
open RZ
/-! ### sets of ints or of texts, exactly -/
structure Atm (P : Program) (w : World) (κ : Type) [DecidableEq κ] where
  kd : PySem.KeyKind P w κ
  val : κ → Tok → Value
  key : Value → κ
  is_mk : ∀ k t, kd.is k (val k t) = true
  key_mk : ∀ k t, key (val k t) = k
  sc : ∀ k t, (val k t).scannable = true
section
variable {P : Program} {w : World} {κ : Type} [DecidableEq κ] (M : Atm P w κ)
def Atm.Good (e : Int × Value) : Prop := ∃ k t, e.2 = M.val k t ∧ e.1 = M.kd.hash k
/-- at a stands a set of just these -/
def Atm.At (h : Heap) (a : Addr) (S : κ → Bool) (n : Nat) : Prop :=
  ∃ ob it ep tb, h.get? a = some ob ∧ ob.ExactSet ∧ ob.data = .set it ep tb ∧ (∀ e ∈ it.toList, M.Good e) ∧ (it.toList.map fun e => M.key e.2).Nodup ∧ (∀ k, S k = true ↔ k ∈ it.toList.map fun e => M.key e.2) ∧
    it.size < scanBound ∧ tb.fits it.size = true ∧ it.size = n ∧ Ris tb.place.toList ∧ (w.params.followText "set-order" = true ∨ tb.led = true)
variable {M} {h g : Heap} {a : Addr} {S : κ → Bool} {n : Nat}
theorem Atm.At.up (R : M.At h a S n) (k : ∀ o, h.get? a = some o → g.get? a = some o) : M.At g a S n := by
  obtain ⟨ob, it, ep, tb, x1, r⟩ := R
  exact ⟨ob, it, ep, tb, k ob x1, r⟩
theorem Atm.At.cg {S2 : κ → Bool} (R : M.At h a S n) (e : ∀ k, S2 k = S k) : M.At h a S2 n := by
  rw [show S2 = S from funext e]; exact R
theorem Atm.elems {l : List (Int × Value)} (g : ∀ e ∈ l, M.Good e) : ElemsOf M.kd l := fun e he => by
  obtain ⟨k, t, y1, y2⟩ := g e he
  exact ⟨⟨k, by rw [y1]; exact M.is_mk k t, y2⟩, by rw [y1]; exact M.sc k t⟩
theorem Atm.Good.is {e : Int × Value} (g : M.Good e) (k : κ) : M.kd.is k e.2 = true ↔ M.key e.2 = k := by
  obtain ⟨k0, t, y1, _⟩ := g
  rw [y1, M.key_mk]
  exact ⟨fun z => (M.kd.inj _ _ _ z (M.is_mk k0 t)).symm, fun z => z ▸ M.is_mk k0 t⟩
theorem Atm.memI {l : List (Int × Value)} (g : ∀ e ∈ l, M.Good e) (k : κ) : (k ∈ l.map fun e => M.key e.2) ↔ ∃ e ∈ l, M.kd.is k e.2 = true := by
  rw [List.mem_map]
  exact ⟨fun ⟨e, he, q⟩ => ⟨e, he, ((g e he).is k).2 q⟩, fun ⟨e, he, q⟩ => ⟨e, he, ((g e he).is k).1 q⟩⟩
end
section
variable {P : Program} {w : World} {κ : Type} [DecidableEq κ] {M : Atm P w κ} {A : Around} {E : Value → Shared → Prop} {s : Shared} {a : Addr} {S : κ → Bool} {n : Nat}
theorem Atm.tail {gv : Bool → Sem Unit} (hg : ∀ (b : Bool) (s₁ : Shared) (Q' : Unit → Shared → Prop), Q' () s₁ → wpAny (model P w) A (gv b) Q' E s₁)
    {ob : Obj} {it : Array (Int × Value)} {ep : Nat} {tb : SetTable} (x1 : s.heap.get? a = some ob) (x2 : ob.ExactSet) (x3 : ob.data = .set it ep tb)
    {it1 : Array (Int × Value)} {tb2 : SetTable} {S2 : κ → Bool} (y1 : ∀ e ∈ it1.toList, M.Good e) (y2 : (it1.toList.map fun e => M.key e.2).Nodup) (y3 : ∀ k, S2 k = true ↔ k ∈ it1.toList.map fun e => M.key e.2)
    (y4 : it1.size < scanBound) (y5 : tb2.fits it1.size = true) (y6 : Ris tb2.place.toList) (y7 : w.params.followText "set-order" = true ∨ tb2.led = true) {dm : Bool} {R : Option Bool → Shared → Prop}
    (fin : ∀ g, Heap.SameBut a s.heap g → M.At g a S2 it1.size → R (some true) { s with heap := g }) :
    wpAny (model P w) A (do
        storeSet a it1 tb2
        if (!dm && tb2.tooFull) = true then do
            gv (relayAll tb2 it1 (SetTable.grown it1.size)).2.2
            storeSet a (relayAll tb2 it1 (SetTable.grown it1.size)).1 (relayAll tb2 it1 (SetTable.grown it1.size)).2.1
            pure (some true)
          else pure (some true)) R E s := by
  refine wpAny_bind (wpAny_storeSet_of x1 x3 ?_ (fits_of_scanBound y4))
  have st1 := store_at (es' := it1) (t' := tb2) x1 x3
  have u1 := Heap.SameBut.update s.heap a (Obj.putSet it1 tb2)
  split
  · have pm := relayAll_perm tb2 it1 (SetTable.grown it1.size)
    have f3 := relayAll_fits tb2 it1 (SetTable.grown it1.size)
    have r3 := relayAll_ris tb2 it1 (SetTable.grown it1.size)
    have l3 := relayAll_led tb2 it1 (SetTable.grown it1.size)
    generalize relayAll tb2 it1 (SetTable.grown it1.size) = Z at pm f3 r3 l3 ⊢
    obtain ⟨it2, tb3, gave⟩ := Z
    dsimp only at pm f3 r3 l3 ⊢
    have sz : it2.size = it1.size := by rw [← Array.length_toList, pm.length_eq, Array.length_toList]
    have b2 : it2.size < scanBound := by rw [sz]; exact y4
    refine wpAny_bind (hg _ _ _ ?_)
    refine wpAny_bind (wpAny_storeSet_of st1 rfl ?_ (fits_of_scanBound b2))
    have st2 := store_at (es' := it2) (t' := tb3) st1 rfl
    refine wpAny_pure (fin _ (u1.trans (Heap.SameBut.update _ a _)) ?_)
    exact ⟨_, it2, _, tb3, st2, x2, rfl, fun e he => y1 e (pm.mem_iff.mp he), (pm.map fun e => M.key e.2).nodup_iff.mpr y2, fun k => (y3 k).trans (pm.map fun e => M.key e.2).mem_iff.symm, b2, f3, sz, r3, y7.imp id fun z => by rw [l3]; exact z⟩
  · exact wpAny_pure (fin _ u1 ⟨_, it1, _, tb2, st1, x2, rfl, y1, y2, y3, y4, y5, rfl, y6, y7⟩)
theorem Atm.add {k : κ} {t : Tok} {Q : Bool → Shared → Prop} (R : M.At s.heap a S n) (room : n + 1 < scanBound)
    (fin : ∀ g, Heap.SameBut a s.heap g → M.At g a (fun j => S j || decide (j = k)) (if S k = true then n else n + 1) → Q (!S k) { s with heap := g }) :
    wpAny (model P w) A (setAddHashed a (M.val k t) (M.kd.hash k)) Q E s := by
  obtain ⟨ob, it, ep, tb, x1, x2, x3, x4, x5, x6, x7, x8, x9, x10, x11⟩ := R
  have ik : M.kd.is k (M.val k t) = true := M.is_mk k t
  have sc : (M.val k t).scannable = true := M.sc k t
  have el : ElemsOf M.kd it.toList := Atm.elems x4
  unfold setAddHashed setAddHashedIn
  refine wpAny_holding (wpAny_bind (wpAny_setState_of x1 x3 x8 ?_))
  dsimp only
  rw [byScan_of sc x7 el]
  simp only [↓reduceIte]
  unfold setAddByScan
  refine wpAny_bind ?_
  refine wpAny_bind (wpAny_rule ?_)
  refine wpAny_bind (wpAny_setScan_of ik x1 x3 x8 el ?_)
  cases hfi : List.findIdx? (fun e => M.kd.is k e.2) it.toList with
  | some j =>
    dsimp only
    obtain ⟨hj, pj, _⟩ := List.findIdx?_eq_some_iff_getElem.mp hfi
    have Sk : S k = true := (x6 k).2 ((Atm.memI x4 k).2 ⟨it.toList[j], List.getElem_mem hj, pj⟩)
    refine wpAny_pure (wpAny_pure ?_)
    have q := fin s.heap (Heap.SameBut.refl a s.heap) ⟨ob, it, ep, tb, x1, x2, x3, x4, x5, fun i => by
      rw [Bool.or_eq_true, decide_eq_true_eq, ← x6 i]
      exact ⟨fun z => z.elim id (fun e => e ▸ Sk), .inl⟩, x7, x8, by rw [if_pos Sk]; exact x9, x10, x11⟩
    rw [Sk] at q
    exact q
  | none =>
    dsimp only
    have nk : k ∉ it.toList.map fun e => M.key e.2 := fun z => by
      obtain ⟨e, he, q⟩ := (Atm.memI x4 k).1 z
      have c := List.findIdx?_eq_none_iff.mp hfi e he
      rw [q] at c
      cases c
    have Sk : S k = false := by
      cases q : S k with
      | false => rfl
      | true => exact absurd ((x6 k).1 q) nk
    have gw : ∀ (b : Bool) {s₁ : Shared} {Q' : Unit → Shared → Prop}, Q' () s₁ → wpAny (model P w) A (match b with | true => rule "set.scan.the-table-gave-way" | false => pure ()) Q' E s₁ :=
      fun b s₁ Q' q => by cases b <;> first | exact wpAny_pure q | exact wpAny_rule q
    have pm := layNew_perm tb it (M.kd.hash k) (M.val k t)
    have f1 := layNew_fits tb it (M.kd.hash k) (M.val k t)
    have r1 := layNew_ris tb it (M.kd.hash k) (M.val k t) x10
    have l1 := layNew_led tb it (M.kd.hash k) (M.val k t)
    generalize layNew tb it (M.kd.hash k) (M.val k t) = Z at pm f1 r1 l1 ⊢
    obtain ⟨it1, tb1, dm, gave⟩ := Z
    dsimp only at pm f1 r1 l1 ⊢
    rw [Array.toList_push] at pm
    have pc : it1.toList.Perm ((M.kd.hash k, M.val k t) :: it.toList) := pm.trans (List.perm_append_singleton _ _)
    have pk : (it1.toList.map fun e => M.key e.2).Perm (k :: it.toList.map fun e => M.key e.2) := by
      have := pc.map fun e => M.key e.2
      rw [List.map_cons, M.key_mk] at this
      exact this
    have g1 : ∀ e ∈ it1.toList, M.Good e := fun e he => by
      rcases List.mem_cons.mp (pc.mem_iff.mp he) with z | z
      · rw [z]; exact ⟨k, t, rfl, rfl⟩
      · exact x4 e z
    have nd1 : (it1.toList.map fun e => M.key e.2).Nodup := pk.nodup_iff.mpr (List.nodup_cons.mpr ⟨nk, x5⟩)
    have m1 : ∀ i, (S i || decide (i = k)) = true ↔ i ∈ it1.toList.map fun e => M.key e.2 := fun i => by
      rw [Bool.or_eq_true, decide_eq_true_eq, x6 i, pk.mem_iff, List.mem_cons]
      exact Or.comm
    have sz : it1.size = n + 1 := by rw [← Array.length_toList, pc.length_eq, List.length_cons, Array.length_toList, x9]
    have b1 : it1.size < scanBound := by rw [sz]; exact room
    have ld : w.params.followText "set-order" = true ∨ tb1.led = true := x11.imp id fun z => by rw [l1]; exact z
    have fin2 : ∀ g, Heap.SameBut a s.heap g → M.At g a (fun j => S j || decide (j = k)) it1.size → Q true { s with heap := g } := fun g sb r => by
      have q := fin g sb
      rw [Sk] at q
      rw [sz] at r
      exact q r
    refine wpAny_bind (gw _ ?_)
    split
    · refine wpAny_bind ?_
      rw [hashByValue_scannable 8 sc]
      refine wpAny_pure ?_
      refine Atm.tail ?_ x1 x2 x3 g1 nd1 m1 b1 ?_ ?_ ?_ ?_
      · intro b s₁ Q' q; cases b <;> first | exact wpAny_pure q | exact wpAny_rule q
      · first | (split <;> first | exact f1 | exact SetTable.fits_plain_off f1) | exact f1
      · first | (split <;> exact r1) | exact r1
      · first | (split <;> exact ld) | exact ld
      · intro g sb r; dsimp only; exact wpAny_pure (fin2 g sb r)
    · refine wpAny_bind (wpAny_pure ?_)
      simp only [↓reduceIte]
      refine Atm.tail ?_ x1 x2 x3 g1 nd1 m1 b1 f1 r1 ld ?_
      · intro b s₁ Q' q; cases b <;> first | exact wpAny_pure q | exact wpAny_rule q
      · intro g sb r; dsimp only; exact wpAny_pure (fin2 g sb r)
end
section
variable {P : Program} {w : World} {κ : Type} [DecidableEq κ] {M : Atm P w κ} {A : Around} {E : Value → Shared → Prop} {s : Shared}
theorem Atm.loop {I : Addr} {fp wr : List Addr} {G : Array GenState → Array GenState → Prop} {n : Nat} {Pv : Nat → Value → Prop} {St : Nat → Shared → Prop} {R : Result → Shared → Prop}
    (W : WalksS P w A.in1 I fp wr G n Pv St) (D : Addr) (nD : D ∉ fp) (ks : List κ) (hn : n = ks.length) (hb : ks.length + 1 < scanBound) (hv : ∀ i v, Pv i v → ∃ k t, ks[i]? = some k ∧ v = M.val k t) :
    ∀ (m i : Nat) (s : Shared), n - i = m → i ≤ n → St i s → (∃ c, c ≤ i ∧ M.At s.heap D (fun j => decide (j ∈ ks.take i)) c) →
      (∀ s2 c, Moved (D :: wr) G s s2 → c ≤ n → M.At s2.heap D (fun j => decide (j ∈ ks)) c → R (.ok (.ret .none)) s2) →
      codeAny (model P w) A (.builtin "set.update.loop" ⟨[.ref D, .ref I], []⟩) R s := by
  have nw : D ∉ wr := fun h => nD (W.sub _ h)
  have sub : ∀ b ∈ wr, b ∈ D :: wr := fun b hb => List.mem_cons_of_mem _ hb
  intro m
  induction m with
  | zero =>
    intro i s hm hi st ⟨c, hc, hS⟩ fin
    have hin : i = n := by omega
    subst hin
    refine codeAny_builtin F.entry_set_update_loop ?_
    rw [Around.under_plainId F.plain_set_update_loop _]
    show wpAny _ A.in1 (pyNext (.ref I) >>= _) _ _ s
    refine wpAny_bind (W.done s _ _ st fun s2 mv => ?_)
    show wpAny _ A.in1 (ret Value.none) _ _ s2
    rw [show ks.take i = ks from List.take_of_length_le (by omega)] at hS
    exact wpAny_pure (fin s2 c (mv.mono sub) hc (hS.up fun o e => mv.heap D o nw e))
  | succ m ih =>
    intro i s hm hi st ⟨c, hc, hS⟩ fin
    have hlt : i < n := by omega
    refine codeAny_builtin F.entry_set_update_loop ?_
    rw [Around.under_plainId F.plain_set_update_loop _]
    show wpAny _ A.in1 (pyNext (.ref I) >>= _) _ _ s
    refine wpAny_bind (W.item i s _ _ hlt st fun v s2 hP st2 mv => ?_)
    obtain ⟨k, t, hk, rfl⟩ := hv i v hP
    have S2 : M.At s2.heap D (fun j => decide (j ∈ ks.take i)) c := hS.up fun o e => mv.heap D o nw e
    show wpAny _ A.in1 (holding [M.val k t] (setAdd D (M.val k t)) >>= _) _ _ s2
    refine wpAny_bind (wpAny_holding ?_)
    unfold setAdd
    refine wpAny_holding ?_
    refine wpAny_bind (M.kd.pyHash (k := k) (M.is_mk k t) ?_)
    refine Atm.add (s := { s2 with toks := s2.toks + 1 }) S2 (by omega) fun g sb R2 => ?_
    have R3 : M.At g D (fun j => decide (j ∈ ks.take (i + 1))) (if decide (k ∈ ks.take i) = true then c else c + 1) := R2.cg fun j => by
      rw [List.take_add_one, hk]
      simp [List.mem_append]
    have c3 : (if decide (k ∈ ks.take i) = true then c else c + 1) ≤ i + 1 := by
      split <;> omega
    refine wpAny_pure ⟨plainId_quiet F.plain_set_update_loop _, ih (i + 1) _ (by omega) hlt (W.frame _ s2 _ _ st2 (Nat.le_succ _) fun b hb o e => ?_) ⟨_, c3, R3⟩ fun s4 c2 mv2 hc2 R4 => ?_⟩
    · rw [sb.2 b (fun h : b = D => nD (by rw [← h]; exact hb))]; exact e
    · refine fin s4 c2 (Moved.trans W.gtrans ((mv.mono sub).then_heap (Nat.le_succ _) fun b o hb e => ?_) mv2) hc2 R4
      rw [sb.2 b (fun h : b = D => hb (by rw [h]; exact List.mem_cons_self))]; exact e
def setO0 (w : World) : Obj := { cls := .type "set", dict := none, data := .set #[] 0 (.fresh 0 0 (!w.params.followText "set-order")) }
theorem Atm.empty {h : Heap} {a : Addr} {ks : List κ} (x1 : h.get? a = some (setO0 w)) : M.At h a (fun j => decide (j ∈ ks.take 0)) 0 :=
  ⟨_, #[], 0, _, x1, ⟨rfl, rfl, rfl⟩, rfl, (fun e he => by simp at he), (by simp), (fun k => by simp), (by decide), (by rfl), rfl, List.Pairwise.nil, by
    show _ ∨ (!w.params.followText "set-order") = true
    cases w.params.followText "set-order"
    · exact .inr rfl
    · exact .inl rfl⟩
set_option maxHeartbeats 4000000 in
/-- set(x), x a list or a tuple -/
theorem Atm.of {d : Bool × Nat × Array Value} {ks : List κ} {Q : Value → Shared → Prop} (hh : A.handled = none) (hl : isSeq d s.heap) (hz : d.2.2.size = ks.length) (hv : ∀ (i : Nat) (v : Value), d.2.2[i]? = some v → ∃ k t, ks[i]? = some k ∧ v = M.val k t) (hb : ks.length + 1 < scanBound)
    (fin : ∀ (g : Heap) (tk c : Nat), M.At g s.heap.objs.size (fun j => decide (j ∈ ks)) c → c ≤ ks.length → (∀ b o, s.heap.get? b = some o → g.get? b = some o) → Q (.ref s.heap.objs.size) { s with heap := g, toks := tk }) :
    wpAny (model P w) A (call (.type "set") [.ref d.2.1]) Q E s := by
  obtain ⟨b, l, items⟩ := d
  dsimp only at hz hv ⊢
  obtain ⟨cl, tl, hmro⟩ := F.called_set.mro
  have hmade := F.called_set.made
  have hsub := F.called_set.sub
  refine wpAny_call (codeAny_of_tree ?_)
  show wpAny _ _ (callAny (.type "set") _) _ _ _
  refine wpAny_pure ⟨Code.quiet_builtin _ (by decide +kernel), codeAny_builtin F.entry_type_call ?_⟩
  rw [Around.under_plain (weight_type_call_type "set" [.ref l] []) rfl]
  have f1 := F.called_set.notType
  have f2 := F.called_set.canCreate
  have f3 := F.typeCall_set_1 (.ref l)
  repeat (any_goals (first | assumption | wp_step))
  refine codeAny_mono (code_set_led1 (.ref l) (E := E) (Q₁ := fun ob s₁ => ob = .ref s.heap.objs.size ∧ s₁ = { s with heap := s.heap.push (setO0 w) }) ⟨rfl, rfl⟩) fun r s₁ hr => ?_
  cases r with
  | error e => exact hr
  | ok fl =>
    cases fl with
    | ret ob =>
      obtain ⟨rfl, rfl⟩ := hr
      have gS : (s.heap.push (setO0 w)).get? s.heap.objs.size = some (setO0 w) := Heap.get?_push_size _ rfl
      have hT : Shared.TypeIs { s with heap := s.heap.push (setO0 w) } (.ref s.heap.objs.size) "set" := ⟨_, gS, rfl⟩
      have hli := F.called_set.init.lookup
      have hbi := F.called_set.init.bind (.ref s.heap.objs.size)
      repeat (any_goals (first | assumption | wp_step))
      have hlS : l < s.heap.objs.size := hl.lt
      have h1s : (s.heap.push (setO0 w)).objs.size = s.heap.objs.size + 1 := Heap.size_push ..
      have nI : l ≠ (s.heap.push (setO0 w)).objs.size := by
        rw [h1s]; exact Nat.ne_of_lt (Nat.lt_succ_of_lt hlS)
      have nS : s.heap.objs.size ∉ [(s.heap.push (setO0 w)).objs.size, l] := by
        rw [h1s]; simp only [List.mem_cons, List.not_mem_nil, or_false, not_or]
        exact ⟨Nat.ne_of_lt (Nat.lt_succ_self _), Nat.ne_of_gt hlS⟩
      have hh3 : A.in1.in1.in1.handled = none := by simp [hh]
      refine codeAny_mono (codeAny_call_builtin (R := wants (fun r s₂ => r = .none ∧ ∃ g tk c, s₂ = { s with heap := g, toks := tk } ∧ M.At g s.heap.objs.size (fun j => decide (j ∈ ks)) c ∧ c ≤ ks.length ∧
          (∀ b o, s.heap.get? b = some o → g.get? b = some o)) E) F.called_set.init.plain F.entry_set_init (check_set_init_1 hT ?_)) fun r₂ s₂ hr₂ => ?_
      · have done : ∀ (io : Obj) (s2 : Shared) (c : Nat), Moved (s.heap.objs.size :: [(s.heap.push (setO0 w)).objs.size]) (fun a b => b = a) { s with heap := (s.heap.push (setO0 w)).push io } s2 → c ≤ items.size → M.At s2.heap s.heap.objs.size (fun j => decide (j ∈ ks)) c →
            wants (fun r s₂ => r = .none ∧ ∃ g tk c, s₂ = { s with heap := g, toks := tk } ∧ M.At g s.heap.objs.size (fun j => decide (j ∈ ks)) c ∧ c ≤ ks.length ∧ (∀ b o, s.heap.get? b = some o → g.get? b = some o)) E (.ok (.ret .none)) s2 := fun io s2 c mv hc hS => by
          obtain ⟨g, g2, d2, tk, os2⟩ := s2
          have e1 : g2 = s.gens := mv.gens
          have e2 : d2 = s.drawn := mv.drawn
          have e3 : os2 = s.os := mv.os
          subst e1 e2 e3
          rw [hz] at hc
          refine ⟨rfl, g, tk, c, rfl, hS, hc, fun b o e => ?_⟩
          have b0 : b < s.heap.objs.size := Heap.lt_size e
          exact mv.heap b o (by
            simp only [List.mem_cons, List.not_mem_nil, or_false, not_or]
            exact ⟨Nat.ne_of_lt b0, by rw [h1s]; exact Nat.ne_of_lt (Nat.lt_succ_of_lt b0)⟩) (Heap.get?_push_of_some _ (Heap.get?_push_of_some _ e))
        cases b with
        | true =>
          have hL : s.heap.IsList l items := hl
          obtain ⟨ol, hol, hcl, nl, hdl⟩ := hL
          obtain ⟨ocls, odict, odata, oslots⟩ := ol
          simp only at hcl hdl
          subst hcl; subst hdl
          have hol2 : (s.heap.push (setO0 w)).get? l = some { cls := .type "list", dict := odict, data := .seq items nl, slots := oslots } := Heap.get?_push_of_some _ hol
          have hs1 := F.sub_list_set
          have hs2 := F.sub_list_frozenset
          have hne : (Value.type "list" == Value.type "dict") = false := by decide
          have hL1 : (s.heap.push (setO0 w)).IsList l items := ⟨_, hol2, rfl, nl, rfl⟩
          unfold Builtin.«set.__init__» noKeywords Builtin.Frozenset.updateFrom
          generalize hPI : pyIter = PI
          wp_walk
          subst hPI
          refine wpAny_pyIter_list hL1 ?_
          refine wpAny_bind (wpAny_runValue ?_)
          refine Atm.loop ((Walks.list hh3 _ l nI items).toS) s.heap.objs.size nS ks hz hb hv (items.size - 0) 0 _ (by omega) (Nat.zero_le _) ⟨⟨_, Heap.get?_push_size _ rfl, rfl, rfl⟩, (hL1.push _)⟩ ?_ ?_
          · exact ⟨0, Nat.le_refl 0, Atm.empty (Heap.get?_push_of_some _ gS)⟩
          · intro s2 c mv hc hS
            show wpAny _ _ _ _ _ _
            refine wpAny_pure ?_
            show wpAny _ _ (ret Value.none) _ _ _
            exact wpAny_pure (done _ s2 c mv hc hS)
        | false =>
          have hL : s.heap.IsTuple l items := hl
          obtain ⟨ol, hol, hcl, nl, hdl⟩ := hL
          obtain ⟨ocls, odict, odata, oslots⟩ := ol
          simp only at hcl hdl
          subst hcl; subst hdl
          have hol2 : (s.heap.push (setO0 w)).get? l = some { cls := .type "tuple", dict := odict, data := .seq items nl, slots := oslots } := Heap.get?_push_of_some _ hol
          have hs1 := F.sub_tuple_set
          have hs2 := F.sub_tuple_frozenset
          have hne : (Value.type "tuple" == Value.type "dict") = false := by decide
          have hL1 : (s.heap.push (setO0 w)).IsTuple l items := ⟨_, hol2, rfl, nl, rfl⟩
          unfold Builtin.«set.__init__» noKeywords Builtin.Frozenset.updateFrom
          generalize hPI : pyIter = PI
          wp_walk
          subst hPI
          refine wpAny_pyIter_tuple hL1 ?_
          refine wpAny_bind (wpAny_runValue ?_)
          refine Atm.loop ((Walks.tuple hh3 _ l nI items).toS) s.heap.objs.size nS ks hz hb hv (items.size - 0) 0 _ (by omega) (Nat.zero_le _) ⟨⟨_, Heap.get?_push_size _ rfl, rfl, rfl⟩, (hL1.push _)⟩ ?_ ?_
          · exact ⟨0, Nat.le_refl 0, Atm.empty (Heap.get?_push_of_some _ gS)⟩
          · intro s2 c mv hc hS
            show wpAny _ _ _ _ _ _
            refine wpAny_pure ?_
            show wpAny _ _ (ret Value.none) _ _ _
            exact wpAny_pure (done _ s2 c mv hc hS)
      · cases r₂ with
        | error e => exact hr₂
        | ok fl₂ =>
          cases fl₂ with
          | ret r =>
            obtain ⟨rfl, g, tk, c, rfl, hS, hc, hk⟩ := hr₂
            repeat (any_goals (first | assumption | wp_step))
            exact fin _ _ _ hS hc hk
          | _ => exact hr₂.elim
    | _ => exact hr.elim
end
end DL

namespace DL
open PySem PySem.Spec PyProof PyProof.Rows L2
open Evl (Ex)
open RZ
/-! ### sorted(set(x)), x a row of ints or of texts -/
def ddS : List Str → List Str
  | [] => []
  | x :: r => if x ∈ r then ddS r else x :: ddS r
theorem ddS_mem {y : Str} : ∀ {l : List Str}, y ∈ ddS l ↔ y ∈ l
  | [] => .rfl
  | x :: r => by
    unfold ddS
    split
    · rw [ddS_mem, List.mem_cons]
      exact ⟨.inr, fun z => z.elim (fun e => e ▸ (by assumption)) id⟩
    · rw [List.mem_cons, ddS_mem, List.mem_cons]
theorem ddS_nodup : ∀ l : List Str, (ddS l).Nodup
  | [] => .nil
  | x :: r => by
    unfold ddS
    split
    · exact ddS_nodup r
    · exact List.nodup_cons.mpr ⟨fun h => (by assumption : ¬ x ∈ r) (ddS_mem.mp h), ddS_nodup r⟩
def setS (l : List Str) : List Str := sortS (ddS l)
theorem setS_mem {y : Str} {l : List Str} : y ∈ setS l ↔ y ∈ l := sortS_mem.trans ddS_mem
theorem setS_nodup (l : List Str) : (setS l).Nodup := (sortS_perm _).nodup_iff.mpr (ddS_nodup l)
theorem setS_is {ys l : List Str} (h1 : ys.Nodup) (h2 : sortedS ys = true) (h3 : ∀ k, k ∈ ys ↔ k ∈ l) : ys = setS l :=
  sorted_unique ((List.perm_ext_iff_of_nodup h1 (setS_nodup l)).mpr fun k => (h3 k).trans setS_mem.symm) h2 (sortS_sorted _)
def insI (x : Int) : List Int → List Int
  | [] => [x]
  | y :: r => if y < x then y :: insI x r else if x = y then y :: r else x :: y :: r
def setI : List Int → List Int
  | [] => []
  | x :: r => insI x (setI r)
theorem insI_mem {x y : Int} : ∀ {l : List Int}, y ∈ insI x l ↔ y = x ∨ y ∈ l
  | [] => by simp [insI]
  | z :: r => by
    unfold insI
    split
    · rw [List.mem_cons, insI_mem, List.mem_cons]
      exact ⟨fun h => h.elim (fun e => .inr (.inl e)) fun h => h.elim .inl fun h => .inr (.inr h), fun h => h.elim (fun e => .inr (.inl e)) fun h => h.elim .inl fun h => .inr (.inr h)⟩
    · split
      · rename_i e
        rw [e]
        exact ⟨.inr, fun h => h.elim (fun e => e ▸ List.mem_cons_self) id⟩
      · exact List.mem_cons
theorem insI_asc {x : Int} : ∀ {l : List Int}, l.Pairwise (· < ·) → (insI x l).Pairwise (· < ·)
  | [], _ => List.pairwise_singleton _ _
  | z :: r, h => by
    obtain ⟨h1, h2⟩ := List.pairwise_cons.mp h
    unfold insI
    split
    · refine List.pairwise_cons.mpr ⟨fun y hy => ?_, insI_asc h2⟩
      rcases insI_mem.mp hy with rfl | hy
      · assumption
      · exact h1 y hy
    · split
      · exact h
      · refine List.pairwise_cons.mpr ⟨fun y hy => ?_, h⟩
        rcases List.mem_cons.mp hy with rfl | hy
        · omega
        · have := h1 y hy
          omega
theorem setI_mem {y : Int} : ∀ {l : List Int}, y ∈ setI l ↔ y ∈ l
  | [] => .rfl
  | x :: r => by
    show y ∈ insI x (setI r) ↔ _
    rw [insI_mem, setI_mem, List.mem_cons]
theorem setI_asc : ∀ l : List Int, (setI l).Pairwise (· < ·)
  | [] => .nil
  | _ :: r => insI_asc (setI_asc r)
theorem asc_unique : ∀ {l m : List Int}, l.Pairwise (· < ·) → m.Pairwise (· < ·) → (∀ k, k ∈ l ↔ k ∈ m) → l = m
  | [], [], _, _, _ => rfl
  | [], y :: t, _, _, h => absurd ((h y).mpr List.mem_cons_self) (by simp)
  | x :: r, [], _, _, h => absurd ((h x).mp List.mem_cons_self) (by simp)
  | x :: r, y :: t, h1, h2, h => by
    obtain ⟨a1, a2⟩ := List.pairwise_cons.mp h1
    obtain ⟨b1, b2⟩ := List.pairwise_cons.mp h2
    have exy : x = y := by
      rcases List.mem_cons.mp ((h x).mp List.mem_cons_self) with e | e
      · exact e
      · rcases List.mem_cons.mp ((h y).mpr List.mem_cons_self) with e2 | e2
        · exact e2.symm
        · have := b1 x e
          have := a1 y e2
          omega
    subst exy
    rw [asc_unique a2 b2 fun k => ⟨fun hk => ?_, fun hk => ?_⟩]
    · rcases List.mem_cons.mp ((h k).mp (List.mem_cons_of_mem _ hk)) with e | e
      · have := a1 k hk
        omega
      · exact e
    · rcases List.mem_cons.mp ((h k).mpr (List.mem_cons_of_mem _ hk)) with e | e
      · have := b1 k hk
        omega
      · exact e
theorem setI_is {ns l : List Int} (h1 : ns.Pairwise (· < ·)) (h3 : ∀ k, k ∈ ns ↔ k ∈ l) : ns = setI l := asc_unique h1 (setI_asc l) fun k => (h3 k).trans setI_mem.symm
section
variable (P : Program) (w : World)
def atmI : Atm P w Int := ⟨PySem.intKind P w, fun k t => .int k t, fun v => match v with | .int k _ => k | _ => 0, fun k t => intKind_is P w k t, fun _ _ => rfl, fun _ _ => rfl⟩
def atmS : Atm P w Str := ⟨PySem.strKind P w, fun k t => .str k t, fun v => match v with | .str k _ => k | _ => ⟨#[]⟩, fun k t => by show Value.isStrOf k (.str k t) = true; simp [Value.isStrOf], fun _ _ => rfl, fun _ _ => rfl⟩
end
section
variable {P : Program} {w : World} {A : Around} {E : Value → Shared → Prop} {s : Shared} {a : Addr} {n : Nat}
theorem strs_of : ∀ (l : List Value), (∀ v ∈ l, ∃ k t, v = Value.str k t) → StrsAre l (l.map fun v => match v with | .str k _ => k | _ => ⟨#[]⟩)
  | [], _ => .nil
  | v :: l, h => by
    obtain ⟨k, t, rfl⟩ := h v List.mem_cons_self
    exact .cons k t (strs_of l fun u hu => h u (List.mem_cons_of_mem _ hu))
theorem ints_of2 : ∀ (l : List Value), (∀ v ∈ l, ∃ k t, v = Value.int k t) → IntsAre l (l.map fun v => match v with | .int k _ => k | _ => 0)
  | [], _ => .nil
  | v :: l, h => by
    obtain ⟨k, t, rfl⟩ := h v List.mem_cons_self
    exact .cons k t (ints_of2 l fun u hu => h u (List.mem_cons_of_mem _ hu))
theorem sorted_setS {ks : List Str} {Q : Value → Shared → Prop} (R : (atmS P w).At s.heap a (fun j => decide (j ∈ ks)) n) (hh : A.handled = none)
    (fin : ∀ s2 p (out : Array Value) (c : Nat), (∀ b o, s.heap.get? b = some o → s2.heap.get? b = some o) → s2.gens = s.gens → s2.os = s.os → s.heap.objs.size ≤ p →
      s2.heap.get? p = some (seqObj "list" out c) → StrsAre out.toList (setS ks) → Q (.ref p) s2) :
    wpAny (model P w) A (call (.builtin "sorted") [.ref a]) Q E s := by
  obtain ⟨ob, it, ep, tb, x1, x2, x3, x4, x5, x6, x7, x8, x9, x10, x11⟩ := R
  refine Calls.call_function_entry kind_sorted plain_sorted entry_sorted (args_sorted1 _) ?_
  unfold Builtin.«sorted»
  refine wpAny_bind (m := checkCount "sorted" 1 1 _) (wpAny_pure ?_)
  refine wpAny_bind (collect_set (A := A.in1) hh ⟨ob, x1, x2.1, x3⟩ x8 x7 x10 x11 fun s1 vs k1 hz g1 o1 pm => ?_)
  have vl : vs.length = it.size := by rw [pm.length_eq, List.length_map, Array.length_toList]
  have sl : vs.length ≤ sizeLine := by
    have h4 : it.size < 4096 := x7
    have h5 : sizeLine = 16777216 := by decide
    omega
  have hI := strs_of vs fun v hv => by
    obtain ⟨e, he, q⟩ := List.mem_map.mp (pm.mem_iff.mp hv)
    obtain ⟨k, t, y1, _⟩ := x4 e he
    exact ⟨k, t, by rw [← q]; exact y1⟩
  have pk : (vs.map fun v => match v with | .str k _ => k | _ => ⟨#[]⟩).Perm (it.toList.map fun e => (atmS P w).key e.2) := by
    have q := pm.map fun v => match v with | Value.str k _ => k | _ => (⟨#[]⟩ : Str)
    rw [List.map_map] at q
    exact q
  generalize (vs.map fun v => match v with | Value.str k _ => k | _ => (⟨#[]⟩ : Str)) = zs at hI pk
  refine wpAny_bind (wpAny_newList ?_ sl)
  have oL : (s1.heap.push (seqObj "list" vs.toArray 0)).get? s1.heap.objs.size = some (seqObj "list" vs.toArray 0) := Heap.get?_push_size _ rfl
  refine wpAny_bind (wpAny_holding (wpAny_call_entry slot_list_sort ⟨_, oL, rfl⟩ entry_list_sort (list_sort_treeKAny strKind_oneLt oL hI.keysOf (fun v₁ v₂ rest e => keyKind_strs (by rw [← e]; exact hI)) sl fun st hp hs => ⟨_, rfl, ?_⟩) (args_list_sort _)))
  obtain ⟨ys, h1, h2, h3⟩ := sorted_out_str hI hp hs
  obtain ⟨c, hc⟩ := sortedHeap_at (vs := vs) (out := (arrOf st).map (·.2)) oL
  have pn : ys.Perm (it.toList.map fun e => (atmS P w).key e.2) := h2.trans pk
  have ey : ys = setS ks := setS_is (pn.nodup_iff.mpr x5) h3 fun k => by
    rw [pn.mem_iff, ← x6 k]
    exact decide_eq_true_iff
  subst ey
  refine wpAny_pure ⟨_, rfl, fin _ s1.heap.objs.size ((arrOf st).map (·.2)) c (fun b u e => ?_) g1 o1 hz hc h1⟩
  have q := k1 b u e
  have hlt := Heap.lt_size q
  show (sortedHeap (s1.heap.push (seqObj "list" vs.toArray 0)) s1.heap.objs.size vs ((arrOf st).map (·.2))).get? b = some u
  rw [sortedHeap_old (Nat.ne_of_lt hlt) (by rw [size_push']; exact Nat.lt_succ_of_lt hlt)]
  exact Heap.get?_push_of_some _ q
theorem sorted_setI {ks : List Int} {Q : Value → Shared → Prop} (R : (atmI P w).At s.heap a (fun j => decide (j ∈ ks)) n) (hh : A.handled = none)
    (fin : ∀ s2 p (out : Array Value) (c : Nat), (∀ b o, s.heap.get? b = some o → s2.heap.get? b = some o) → s2.gens = s.gens → s2.os = s.os → s.heap.objs.size ≤ p →
      s2.heap.get? p = some (seqObj "list" out c) → IntsAre out.toList (setI ks) → Q (.ref p) s2) :
    wpAny (model P w) A (call (.builtin "sorted") [.ref a]) Q E s := by
  obtain ⟨ob, it, ep, tb, x1, x2, x3, x4, x5, x6, x7, x8, x9, x10, x11⟩ := R
  refine Calls.call_function_entry kind_sorted plain_sorted entry_sorted (args_sorted1 _) ?_
  unfold Builtin.«sorted»
  refine wpAny_bind (m := checkCount "sorted" 1 1 _) (wpAny_pure ?_)
  refine wpAny_bind (collect_set (A := A.in1) hh ⟨ob, x1, x2.1, x3⟩ x8 x7 x10 x11 fun s1 vs k1 hz g1 o1 pm => ?_)
  have vl : vs.length = it.size := by rw [pm.length_eq, List.length_map, Array.length_toList]
  have sl : vs.length ≤ sizeLine := by
    have h4 : it.size < 4096 := x7
    have h5 : sizeLine = 16777216 := by decide
    omega
  have hI := ints_of2 vs fun v hv => by
    obtain ⟨e, he, q⟩ := List.mem_map.mp (pm.mem_iff.mp hv)
    obtain ⟨k, t, y1, _⟩ := x4 e he
    exact ⟨k, t, by rw [← q]; exact y1⟩
  have pk : (vs.map fun v => match v with | .int k _ => k | _ => 0).Perm (it.toList.map fun e => (atmI P w).key e.2) := by
    have q := pm.map fun v => match v with | Value.int k _ => k | _ => (0 : Int)
    rw [List.map_map] at q
    exact q
  generalize (vs.map fun v => match v with | Value.int k _ => k | _ => (0 : Int)) = zs at hI pk
  refine wpAny_bind (wpAny_newList ?_ sl)
  have oL : (s1.heap.push (seqObj "list" vs.toArray 0)).get? s1.heap.objs.size = some (seqObj "list" vs.toArray 0) := Heap.get?_push_size _ rfl
  refine wpAny_bind (wpAny_holding (wpAny_call_entry slot_list_sort ⟨_, oL, rfl⟩ entry_list_sort (list_sort_treeAny oL hI sl fun out ys h1 h2 h3 => ⟨_, rfl, ?_⟩) (args_list_sort _)))
  obtain ⟨c, hc⟩ := sortedHeap_at (vs := vs) (out := out) oL
  have pn : ys.Perm (it.toList.map fun e => (atmI P w).key e.2) := h2.trans pk
  have ey : ys = setI ks := setI_is (lt_of_le_nodup ys h3 (pn.nodup_iff.mpr x5)) fun k => by
    rw [pn.mem_iff, ← x6 k]
    exact decide_eq_true_iff
  subst ey
  refine wpAny_pure ⟨_, rfl, fin _ s1.heap.objs.size out c (fun b u e => ?_) g1 o1 hz hc h1⟩
  have q := k1 b u e
  have hlt := Heap.lt_size q
  show (sortedHeap (s1.heap.push (seqObj "list" vs.toArray 0)) s1.heap.objs.size vs out).get? b = some u
  rw [sortedHeap_old (Nat.ne_of_lt hlt) (by rw [size_push']; exact Nat.lt_succ_of_lt hlt)]
  exact Heap.get?_push_of_some _ q
end
end DL

namespace DL
open PySem PySem.Spec PyProof PyProof.Rows L2
open Evl (Ex)
open RZ
def tSrtSet (K : PySem.W.Frag) (te : TE) : TE := fun σ H Q => te σ H fun x H1 => ∃ l, x = V.ref l ∧
  ((∃ ns : List Int, (SqL K H1 l (ns.map V.int) ∨ SqT K H1 l (ns.map V.int)) ∧ ns.length ≤ 4000 ∧ ∀ p, H1 p = none → Q (.ref p) (upd H1 p (.lst ((setI ns).map V.int)))) ∨
   (∃ ns : List Str, (SqL K H1 l (ns.map V.str) ∨ SqT K H1 l (ns.map V.str)) ∧ ns.length ≤ 4000 ∧ ∀ p, H1 p = none → Q (.ref p) (upd H1 p (.lst ((setS ns).map V.str)))))
theorem seq_is {X : Cx} {pins : List (Addr × Obj)} {σ : L2.St} {H : Hp} {s : Shared} (I : Inv X pins σ H s) {l : Addr} {xs : List V} (h : SqL X.K H l xs ∨ SqT X.K H l xs) : ∃ b its, Vals xs its ∧ isSeq (b, l, its.toArray) s.heap := by
  rcases h with h | h
  · obtain ⟨its, rv, q⟩ := sqb_is I (d := (true, l, xs)) h
    exact ⟨true, its, rv, q⟩
  · obtain ⟨its, rv, q⟩ := sqb_is I (d := (false, l, xs)) h
    exact ⟨false, its, rv, q⟩
theorem vals_intsR : ∀ {ns : List Int} {us : List Value}, Vals (ns.map V.int) us → ∀ (i : Nat) (v : Value), us[i]? = some v → ∃ k t, ns[i]? = some k ∧ v = Value.int k t
  | [], _, .nil, i, v, h => by simp at h
  | n :: ns, _, .cons r rr, 0, v, h => by
    obtain ⟨t, rfl⟩ := r
    cases h
    exact ⟨n, t, rfl, rfl⟩
  | n :: ns, _, .cons r rr, i + 1, v, h => by
    obtain ⟨k, t, a, b⟩ := vals_intsR rr i v (by simpa using h)
    exact ⟨k, t, by simpa using a, b⟩
theorem vals_strsR : ∀ {ns : List Str} {us : List Value}, Vals (ns.map V.str) us → ∀ (i : Nat) (v : Value), us[i]? = some v → ∃ k t, ns[i]? = some k ∧ v = Value.str k t
  | [], _, .nil, i, v, h => by simp at h
  | n :: ns, _, .cons r rr, 0, v, h => by
    obtain ⟨t, rfl⟩ := r
    cases h
    exact ⟨n, t, rfl, rfl⟩
  | n :: ns, _, .cons r rr, i + 1, v, h => by
    obtain ⟨k, t, a, b⟩ := vals_strsR rr i v (by simpa using h)
    exact ⟨k, t, by simpa using a, b⟩
theorem setS_len (l : List Str) : (setS l).length ≤ l.length := by
  have h : ∀ l : List Str, (ddS l).length ≤ l.length := fun l => by
    induction l with
    | nil => exact Nat.le_refl _
    | cons x r ih =>
      unfold ddS
      split
      · exact Nat.le_succ_of_le ih
      · exact Nat.succ_le_succ ih
  unfold setS
  rw [sortS_len]
  exact h l
theorem setI_len : ∀ l : List Int, (setI l).length ≤ l.length
  | [] => Nat.le_refl _
  | x :: r => by
    have h : ∀ l : List Int, (insI x l).length ≤ l.length + 1 := fun l => by
      induction l with
      | nil => exact Nat.le_refl _
      | cons y r ih =>
        unfold insI
        split
        · exact Nat.succ_le_succ ih
        · split
          · exact Nat.le_succ _
          · exact Nat.le_refl _
    exact Nat.le_trans (h _) (Nat.succ_le_succ (setI_len r))
section
variable {X : Cx}
theorem laid_srt {pins : List (Addr × Obj)} {σ : L2.St} {H1 : Hp} {s1 s2 : Shared} {xs : List V} {out : Array Value} {c : Nat} {p : Addr} {Q : VK} (I : Inv X pins σ H1 s1) (k : ∀ b o, s1.heap.get? b = some o → s2.heap.get? b = some o) (g : s2.gens = s1.gens) (o : s2.os = s1.os) (hp : s1.heap.objs.size ≤ p)
    (ho : s2.heap.get? p = some (seqObj "list" out c)) (rv : Vals xs out.toList) (hl : xs.length ≤ sizeLine) (q : ∀ p, H1 p = none → Q (.ref p) (upd H1 p (.lst xs))) : EP X pins σ Q (.ref p) s2 := by
  have hn : H1 p = none := I.hok.fresh hp
  have J : Inv X pins σ (upd H1 p (.lst xs)) s2 := I.call' (ch := []) o (Un.laid k hp hn) (I.hok.laid k hp ⟨hl, out.toList, c, rv, ho⟩) (by rw [g]; exact I.bare) (fun _ z => nomatch z)
  exact ⟨.ref p, _, J, rfl, q p hn⟩
theorem pe_srtSet {a : Expr} {ta : TE} {p p2 q pos : Pos} (hg : Gl X "sorted") (hm : X.mg "sorted" = none) (hg2 : Gl X "set") (hm2 : X.mg "set" = none) (ha : PE X a ta) (hc : X.calm = true := by rfl)
    (na : starEach [a] X.env = (false, eval a X.env) :: starEach [] X.env := by rfl) : PE X (.Call (.Name "sorted" p) [.Call (.Name "set" p2) [a] [] q] [] pos) (tSrtSet X.K ta) := by
  refine ⟨fun pins s σ H Q I h => ?_⟩
  refine Call_ (ld_blt I hg hm boot_sorted ?_)
  refine PyProof.Rows.callWith_builtin1 (PyProof.Rows.args_cons ?_ rfl) rfl rfl
  refine Call_ (ld_blt I hg2 hm2 PyProof.Rows.boot_set ?_)
  refine PyProof.Rows.callWith_type1 (PyProof.Rows.args_cons (thn (ha.run pins s σ H _ I h) fun v s1 ⟨x, H1, I1, r1, q1⟩ => PyProof.Rows.args_nil ?_) na) na rfl
  obtain ⟨l, rfl, q1⟩ := q1
  cases r1
  have sz : sizeLine = 16777216 := by decide
  have sb : scanBound = 4096 := rfl
  rcases q1 with ⟨ns, hs, hn, q1⟩ | ⟨ns, hs, hn, q1⟩
  · obtain ⟨b, its, rv, hq⟩ := seq_is I1 hs
    have hl : its.length = ns.length := by rw [← rv.length, List.length_map]
    refine Atm.of (M := atmI X.prog X.w) (ks := ns) (I1.ok.hd hc) hq (by rw [List.size_toArray, hl]) (fun i v hv => vals_intsR rv i v (by simpa using hv)) (by omega) fun g tk c R hcn k => PyProof.Rows.args_nil ?_
    have I2 : Inv X pins σ H1 { s1 with heap := g, toks := tk } := I1.kept (t' := tk) k
    refine sorted_setI (s := { s1 with heap := g, toks := tk }) R (I1.ok.hd hc) fun s2 p out c2 k2 g2 o2 hp ho hi => laid_srt I2 k2 g2 o2 hp ho (vals_of_ints hi) ?_ q1
    rw [List.length_map]
    have := setI_len ns
    omega
  · obtain ⟨b, its, rv, hq⟩ := seq_is I1 hs
    have hl : its.length = ns.length := by rw [← rv.length, List.length_map]
    refine Atm.of (M := atmS X.prog X.w) (ks := ns) (I1.ok.hd hc) hq (by rw [List.size_toArray, hl]) (fun i v hv => vals_strsR rv i v (by simpa using hv)) (by omega) fun g tk c R hcn k => PyProof.Rows.args_nil ?_
    have I2 : Inv X pins σ H1 { s1 with heap := g, toks := tk } := I1.kept (t' := tk) k
    refine sorted_setS (s := { s1 with heap := g, toks := tk }) R (I1.ok.hd hc) fun s2 p out c2 k2 g2 o2 hp ho hi => laid_srt I2 k2 g2 o2 hp ho (vals_of_strs hi) ?_ q1
    rw [List.length_map]
    have := setS_len ns
    omega
end
section
variable {K : PySem.W.Frag}
theorem dta_ints2 {Hd : Hp} : ∀ {vs : List V} {ns : List Int}, DtA K Hd vs (ns.map PyData.int) → vs = ns.map V.int
  | _, [], h => by cases h; rfl
  | _, n :: ns, h => by
    cases h with
    | cons h1 h2 => cases h1; rw [dta_ints2 h2]; rfl
theorem dta_strs2 {Hd : Hp} : ∀ {vs : List V} {ns : List Str}, DtA K Hd vs (ns.map PyData.str) → vs = ns.map V.str
  | _, [], h => by cases h; rfl
  | _, n :: ns, h => by
    cases h with
    | cons h1 h2 => cases h1; rw [dta_strs2 h2]; rfl
theorem DtA.ints2 {Hd : Hp} : ∀ ns : List Int, DtA K Hd (ns.map V.int) (ns.map PyData.int)
  | [] => .nil
  | n :: ns => .cons (.int n) (DtA.ints2 ns)
theorem DtA.strs2 {Hd : Hp} : ∀ ns : List Str, DtA K Hd (ns.map V.str) (ns.map PyData.str)
  | [] => .nil
  | n :: ns => .cons (.str n) (DtA.strs2 ns)
/-- sorted(set(x)) as a function -/
def srtSet (ds : List PyData) : Option (List PyData) := if ds.length ≤ 4000 then (match nums ds with | some ns => some ((setI ns).map PyData.int) | none => (strL ds).bind fun ss => some ((setS ss).map PyData.str)) else none
def sSrtSet (a : SQ K) : SF K := ⟨tSrtSet K a.te, fun Γ => (a.ev Γ).bind fun x => srtSet x.2, fun {Γ d} h => by
  obtain ⟨⟨b, ds⟩, h1, h⟩ := bnd h
  unfold srtSet at h
  split at h
  · rename_i hl
    replace hl : ds.length ≤ 4000 := hl
    have fin : ∀ {Hd H Hd1 H1 : Hp} {xs : List V} {es : List PyData} {Q : VK}, Ext Hd H Hd1 H1 → (∀ {Hd2 : Hp}, DtA K Hd2 xs es) → (∀ (a : Addr) (vs : List V) (Hd' H' : Hp), Ext Hd H Hd' H' → H a = none → Hd' a = none → H' a = some (.lst vs) → DtA K Hd' vs es → Q (.ref a) H') → ∀ p, H1 p = none → Q (.ref p) (upd H1 p (.lst xs)) := fun x1 hd q p hp =>
      q p _ _ _ (x1.mut (Evl.fresh_back x1.h hp) (Evl.fresh_back x1.i hp)) (Evl.fresh_back x1.h hp) (Evl.fresh_back x1.i hp) upd_same hd
    cases hn : nums ds with
    | some ns =>
      have e := nums_map hn
      subst e
      have h : some ((setI ns).map PyData.int) = some d := by
        have h : (match nums (ns.map PyData.int) with | some ns => some ((setI ns).map PyData.int) | none => _) = some d := h
        rw [hn] at h
        exact h
      cases h
      intro Hd0 H0 σ Hd H e Q q
      refine a.ok h1 _ _ σ Hd H e _ fun l vs Hd1 H1 x1 g1 k1 d1 => ⟨l, rfl, .inl ⟨ns, ?_, by rw [List.length_map] at hl; exact hl, fin x1 (DtA.ints2 _) q⟩⟩
      rw [← dta_ints2 d1]
      exact sq_b g1
    | none =>
      have h : ((strL ds).bind fun ss => some ((setS ss).map PyData.str)) = some d := by
        have h : (match nums ds with | some ns => some ((setI ns).map PyData.int) | none => (strL ds).bind fun ss => some ((setS ss).map PyData.str)) = some d := h
        rw [hn] at h
        exact h
      obtain ⟨ss, h2, h⟩ := bnd h
      cases h
      have e := strL_map h2
      subst e
      intro Hd0 H0 σ Hd H e Q q
      refine a.ok h1 _ _ σ Hd H e _ fun l vs Hd1 H1 x1 g1 k1 d1 => ⟨l, rfl, .inr ⟨ss, ?_, by rw [List.length_map] at hl; exact hl, fin x1 (DtA.strs2 _) q⟩⟩
      rw [← dta_strs2 d1]
      exact sq_b g1
  · cases h⟩
end
end DL

namespace DL
open PySem PySem.Spec PyProof PyProof.Rows L2
open Evl (Ex)
open RZ
/-! ### rows of ints or of texts as members of a set -/
section
variable {P : Program} {w : World} {κ : Type} [DecidableEq κ] (M : Atm P w κ)
inductive RowA : List κ → List Value → Prop
  | nil : RowA [] []
  | cons {k : κ} {t : Tok} {ks : List κ} {vs : List Value} : RowA ks vs → RowA (k :: ks) (M.val k t :: vs)
def IsRow (h : Heap) (k : List κ) (a : Addr) : Prop := ∃ o items n, h.get? a = some o ∧ o.cls = .type "tuple" ∧ o.data = .seq items n ∧ RowA M k items.toList
def rhash (k : List κ) : Int := tupleKeyHash M.kd k
end
section
variable {P : Program} {w : World} {κ : Type} [DecidableEq κ] {M : Atm P w κ}
theorem RowA.items : ∀ {k : List κ} {vs : List Value}, RowA M k vs → PySem.ItemsAre M.kd k vs
  | _, _, .nil => .nil
  | _, _, .cons r => .cons (M.is_mk _ _) r.items
theorem RowA.scan : ∀ {k : List κ} {vs : List Value}, RowA M k vs → ∀ v ∈ vs, v.scannable = true
  | _, _, .nil, _, h => nomatch h
  | _, _, .cons r, v, h => by
    rcases List.mem_cons.mp h with rfl | h
    · exact M.sc _ _
    · exact r.scan v h
variable {h g : Heap} {a b : Addr} {k : List κ}
theorem IsRow.key (r : IsRow M h k b) : IsTupleKey M.kd h k b := by
  obtain ⟨o, items, n, h1, h2, h3, h4⟩ := r
  exact ⟨o, items, n, h1, h2, h3, h4.items⟩
theorem IsRow.keep (r : IsRow M h k b) (e : ∀ c o, h.get? c = some o → g.get? c = some o) : IsRow M g k b := by
  obtain ⟨o, items, n, h1, h2⟩ := r
  exact ⟨o, items, n, e _ _ h1, h2⟩
theorem IsRow.same {o : Obj} {es : Array (Int × Value)} {ep : Nat} {t : SetTable} (r : IsRow M h k b) (ho : h.get? a = some o) (hd : o.data = .set es ep t) (sb : Heap.SameBut a h g) : IsRow M g k b := by
  obtain ⟨u, items, n, h1, h2, h3, h4⟩ := r
  refine ⟨u, items, n, ?_, h2, h3, h4⟩
  rw [sb.2 b fun e => ?_]
  · exact h1
  · subst e
    rw [ho] at h1
    cases h1
    rw [hd] at h3
    cases h3
variable {A : Around} {E : Value → Shared → Prop} {s : Shared}
theorem row_tup (r : IsRow M s.heap k b) : ∃ items : Array Value, s.heap.IsTuple b items ∧ RowA M k items.toList := by
  obtain ⟨o, items, n, h1, h2, h3, h4⟩ := r
  exact ⟨items, ⟨o, h1, h2, n, h3⟩, h4⟩
theorem all_hash : ∀ (l : List Value) (hl : ∀ v ∈ l, v.scannable = true) {Q : Option Bool × Unit → Shared → Prop}, (∀ o, Q (o, ()) s) →
    wpAny (model P w) A (forIn l (none, ()) fun x __s => do
                let __do_lift ← hashByValue 7 x
                if (!__do_lift) = true then pure (ForInStep.done (some false, ()))
                  else pure (ForInStep.yield (none, ()))) Q E s
  | [], _, Q, q => wpAny_pure (q _)
  | x :: l, hl, Q, q => by
    rw [List.forIn_cons, hashByValue_scannable 7 (hl x List.mem_cons_self)]
    refine wpAny_bind (wpAny_bind (wpAny_pure ?_))
    cases plainKind x
    · exact wpAny_pure (wpAny_pure (q _))
    · exact wpAny_pure (all_hash l (fun v hv => hl v (List.mem_cons_of_mem _ hv)) q)
theorem all_hashA (items : Array Value) (hl : ∀ v ∈ items.toList, v.scannable = true) {Q : Option Bool × Unit → Shared → Prop} (q : (∀ o, Q (o, ()) s)) :
    wpAny (model P w) A (forIn items (none, ()) fun x __s => do
                let __do_lift ← hashByValue 7 x
                if (!__do_lift) = true then pure (ForInStep.done (some false, ()))
                  else pure (ForInStep.yield (none, ()))) Q E s := by
  rw [← Array.forIn_toList]
  exact all_hash items.toList hl q
theorem hash_row {Q : Bool → Shared → Prop} (r : IsRow M s.heap k b) (q : ∀ b, Q b s) : wpAny (model P w) A (hashByValue 8 (.ref b)) Q E s := by
  obtain ⟨⟨ocls, odict, odata, oslots⟩, items, n, ho, hc, hd, ra⟩ := r
  simp only at hc hd
  subst hc; subst hd
  have hT : Shared.TypeIs s (.ref b) "tuple" := ⟨_, ho, rfl⟩
  unfold hashByValue
  have hl := ra.scan
  have hs := F.slot_tuple_hash.lookup
  repeat (any_goals (first | assumption | wp_step))
  refine all_hashA items hl fun o => ?_
  cases o <;> exact wpAny_pure (q _)
theorem all_cls : ∀ (l : List Value) (hl : ∀ v ∈ l, v.scannable = true) {Q : Option Bool × Unit → Shared → Prop}, Q (none, ()) s →
    wpAny (model P w) A (forIn l (none, ()) fun x __s => do
                let __do_lift ← ofAClassStatement 7 x
                if __do_lift = true then pure (ForInStep.done (some true, ()))
                  else pure (ForInStep.yield (none, ()))) Q E s
  | [], _, Q, q => wpAny_pure q
  | x :: l, hl, Q, q => by
    have e : ofAClassStatement 7 x = pure false := by
      have h := hl x List.mem_cons_self
      revert h
      cases x <;> intro h <;> first | rfl | (unfold ofAClassStatement; rfl) | cases h
    rw [List.forIn_cons, e]
    refine wpAny_bind (wpAny_bind (wpAny_pure ?_))
    exact wpAny_pure (all_cls l (fun v hv => hl v (List.mem_cons_of_mem _ hv)) q)
theorem all_clsA (items : Array Value) (hl : ∀ v ∈ items.toList, v.scannable = true) {Q : Option Bool × Unit → Shared → Prop} (q : Q (none, ()) s) :
    wpAny (model P w) A (forIn items (none, ()) fun x __s => do
                let __do_lift ← ofAClassStatement 7 x
                if __do_lift = true then pure (ForInStep.done (some true, ()))
                  else pure (ForInStep.yield (none, ()))) Q E s := by
  rw [← Array.forIn_toList]
  exact all_cls items.toList hl q
theorem cls_row {Q : Bool → Shared → Prop} (r : IsRow M s.heap k b) (q : Q false s) : wpAny (model P w) A (ofAClassStatement 8 (.ref b)) Q E s := by
  obtain ⟨⟨ocls, odict, odata, oslots⟩, items, n, ho, hc, hd, ra⟩ := r
  simp only at hc hd
  subst hc; subst hd
  have hT : Shared.TypeIs s (.ref b) "tuple" := ⟨_, ho, rfl⟩
  unfold ofAClassStatement
  have hl := ra.scan
  repeat (any_goals (first | assumption | wp_step))
  refine all_clsA items hl ?_
  exact wpAny_pure q
theorem seen_row {Q : Bool → Shared → Prop} (r : IsRow M s.heap k b) : ∀ {ys : List Value}, (∀ y ∈ ys, ∃ k2 c, y = Value.ref c ∧ IsRow M s.heap k2 c) → Q false s → wpAny (model P w) A (searchCouldBeSeen (.ref b) ys) Q E s := by
  have main : ∀ (ys : List Value) (hy : ∀ y ∈ ys, ∃ k2 c, y = Value.ref c ∧ IsRow M s.heap k2 c) {Q : Option Bool × Unit → Shared → Prop}, Q (none, ()) s → wpAny (model P w) A (forIn ys (none, ()) fun y __s =>
                if
                    ((match Value.ref b, y with
                        | Value.ref a, Value.ref b => a == b
                        | x, x_1 => false) ||
                        carriedByValue (Value.ref b) && carriedByValue y) =
                      true then
                  pure (ForInStep.yield (none, ()))
                else do
                  let __do_lift ← eqIsQuiet 8 (Value.ref b)
                  if (!__do_lift) = true then pure (ForInStep.done (some true, ()))
                    else do
                      let __do_lift ← eqIsQuiet 8 y
                      if (!__do_lift) = true then pure (ForInStep.done (some true, ()))
                        else do
                          let __do_lift ← ofAClassStatement 8 (Value.ref b)
                          if __do_lift = true then pure (ForInStep.done (some true, ()))
                            else do
                              let __do_lift ← ofAClassStatement 8 y
                              if __do_lift = true then pure (ForInStep.done (some true, ()))
                                else pure (ForInStep.yield (none, ()))) Q E s := by
    intro ys
    induction ys with
    | nil => exact fun _ Q q => wpAny_pure q
    | cons y ys ih =>
      intro hy Q q
      obtain ⟨k2, c, rfl, r2⟩ := hy _ List.mem_cons_self
      have go := ih (fun y h => hy y (List.mem_cons_of_mem _ h)) (Q := Q) q
      rw [List.forIn_cons]
      refine wpAny_bind ?_
      by_cases hb : (b == c || carriedByValue (Value.ref b) && carriedByValue (Value.ref c)) = true
      · rw [if_pos hb]
        exact wpAny_pure go
      · rw [if_neg hb]
        refine wpAny_bind ((tupleKind M.kd).quiet r.key ?_)
        refine wpAny_bind ((tupleKind M.kd).quiet r2.key ?_)
        refine wpAny_bind (cls_row r ?_)
        refine wpAny_bind (cls_row r2 ?_)
        exact wpAny_pure go
  intro ys hy q
  unfold searchCouldBeSeen
  exact wpAny_bind (main ys hy (wpAny_pure q))
end
end DL

namespace DL
open PySem PySem.Spec PyProof PyProof.Rows L2
open Evl (Ex)
open RZ
/-! ### a set of rows: where it looks -/
section
variable {P : Program} {w : World} {κ : Type} [DecidableEq κ] (M : Atm P w κ)
structure RSet (h : Heap) (a : Addr) (L : List (Addr × List κ)) (es : Array (Int × Value)) (ep : Nat) (t : SetTable) : Prop where
  ob : ∃ o, h.get? a = some o ∧ o.ExactSet ∧ o.data = .set es ep t
  rows : es.toList = L.map fun p => (rhash M p.2, Value.ref p.1)
  tab : L2.TabOk t (L.map fun p => rhash M p.2)
  nd : (L.map (·.2)).Nodup
  tup : ∀ p ∈ L, IsRow M h p.2 p.1
  led : w.params.followText "set-order" = true ∨ t.led = true
  room : L.length * 5 < t.mask * 3
  few : L.length < 64
end
section
variable {P : Program} {w : World} {κ : Type} [DecidableEq κ] {M : Atm P w κ} {A : Around} {E : Value → Shared → Prop} {s : Shared} {h g : Heap} {a : Addr} {L : List (Addr × List κ)} {es : Array (Int × Value)} {ep : Nat} {t : SetTable}
theorem RSet.size (R : RSet M h a L es ep t) : es.size = L.length := by rw [← Array.length_toList, R.rows, List.length_map]
theorem RSet.fits (R : RSet M h a L es ep t) : t.fits es.size = true := by
  have e1 : t.place.size = L.length := by rw [R.tab.sz, List.length_map]
  have e2 : t.dummies = #[] := R.tab.dm
  have e3 := R.room
  unfold SetTable.fits SetTable.fill
  rw [R.size, e1, e2]
  simp
  omega
theorem RSet.gw (R : RSet M h a L es ep t) : t.gaveWay = false := by
  have := mask_odd R.tab.mok
  unfold SetTable.gaveWay
  rw [this]; rfl
theorem RSet.keep (R : RSet M h a L es ep t) (e : ∀ c o, h.get? c = some o → g.get? c = some o) : RSet M g a L es ep t := by
  obtain ⟨⟨o, h1, h2⟩, b, c, d, f, i, j, k⟩ := R
  exact ⟨⟨o, e _ _ h1, h2⟩, b, c, d, fun p hp => (f p hp).keep e, i, j, k⟩
theorem nth_dm (t : SetTable) (p : SetTable.Probe) : ∀ k, (L2.nth t.mask p k).dummy = p.dummy
  | 0 => rfl
  | k + 1 => by
    rw [L2.nth_succ, ← L2.adv_eq t, ← nth_dm t p k]
    unfold SetTable.advance
    split <;> rfl
theorem dm_run (m b n : Nat) : (L2.runAt m b n).dummy = none := rfl
/-- where the probe of a table comes to -/
theorem probe_to {hs : List Int} (T : L2.TabOk t hs) (at_ : Nat → Int) (q : Int) {K : Nat} (hK : ¬ L2.way t.mask q K ∈ t.place.toList) (hb : ∀ c, c < K → L2.way t.mask q c ∈ t.place.toList) :
    ∀ (f c : Nat), c ≤ K → K - c < f →
      (∃ c' i, c ≤ c' ∧ c' < K ∧ t.place.toList[i]? = some (L2.way t.mask q c') ∧ (at_ i == q) = true ∧ (∀ c2 j, c ≤ c2 → c2 < c' → t.place.toList[j]? = some (L2.way t.mask q c2) → (at_ j == q) = false) ∧
        SetTable.probe.go t at_ q f (L2.nth t.mask (L2.runAt t.mask (SetTable.bits q % (t.mask + 1)) (SetTable.bits q)) c) = some (.candidate (L2.way t.mask q c') i (L2.nth t.mask (L2.runAt t.mask (SetTable.bits q % (t.mask + 1)) (SetTable.bits q)) (c' + 1)))) ∨
      ((∀ c2 j, c ≤ c2 → c2 < K → t.place.toList[j]? = some (L2.way t.mask q c2) → (at_ j == q) = false) ∧
        SetTable.probe.go t at_ q f (L2.nth t.mask (L2.runAt t.mask (SetTable.bits q % (t.mask + 1)) (SetTable.bits q)) c) = some (.empty (L2.way t.mask q K) none))
  | 0, c, _, h => absurd h (Nat.not_lt_zero _)
  | f + 1, c, hc, hf => by
    have un := SetTable.probe.go.eq_2 t at_ q (L2.nth t.mask (L2.runAt t.mask (SetTable.bits q % (t.mask + 1)) (SetTable.bits q)) c) f
    rcases Nat.eq_or_lt_of_le hc with rfl | lt
    · refine .inr ⟨fun c2 j h1 h2 => absurd h2 (by omega), ?_⟩
      rw [un, L2.slot_empty T.dm hK]
      show some (SetTable.Met.empty _ (L2.nth t.mask _ c).dummy) = _
      rw [nth_dm]
      rfl
    · obtain ⟨i, hi⟩ := List.getElem?_of_mem (hb c lt)
      have sl := L2.slot_live T.ris hi
      have st : t.advance (L2.nth t.mask (L2.runAt t.mask (SetTable.bits q % (t.mask + 1)) (SetTable.bits q)) c) = L2.nth t.mask (L2.runAt t.mask (SetTable.bits q % (t.mask + 1)) (SetTable.bits q)) (c + 1) := by
        rw [L2.nth_succ, L2.adv_eq]
      rw [un, sl, st]
      dsimp only
      have uniq : ∀ j, t.place.toList[j]? = some (L2.way t.mask q c) → j = i := fun j hj => by
        have s2 := L2.slot_live T.ris hj
        rw [sl] at s2
        cases s2
        rfl
      by_cases e : (at_ i == q) = true
      · rw [if_pos e]
        exact .inl ⟨c, i, Nat.le_refl _, lt, hi, e, fun c2 j h1 h2 => absurd h2 (by omega), rfl⟩
      · rw [if_neg e]
        have e' : (at_ i == q) = false := by simpa using e
        rcases probe_to T at_ q hK hb f (c + 1) lt (by omega) with ⟨c', i', h1, h2, h3, h4, h5, h6⟩ | ⟨h1, h2⟩
        · refine .inl ⟨c', i', by omega, h2, h3, h4, fun c2 j g1 g2 g3 => ?_, h6⟩
          rcases Nat.eq_or_lt_of_le g1 with rfl | g1
          · rw [uniq j g3]; exact e'
          · exact h5 c2 j g1 g2 g3
        · refine .inr ⟨fun c2 j g1 g2 g3 => ?_, h2⟩
          rcases Nat.eq_or_lt_of_le g1 with rfl | g1
          · rw [uniq j g3]; exact e'
          · exact h1 c2 j g1 g2 g3
theorem RSet.row (R : RSet M h a L es ep t) {i : Nat} {p : Addr × List κ} (hp : L[i]? = some p) : es[i]? = some (rhash M p.2, .ref p.1) := by
  rw [← Array.getElem?_toList, R.rows, List.getElem?_map, hp]; rfl
theorem RSet.find (R : RSet M s.heap a L es ep t) {x : Addr} {k : List κ} (hx : IsRow M s.heap k x) (hu : A.units < cLine) {K : Nat} (hf : K < 10 * SetTable.turns t.mask)
    (hK : ¬ L2.way t.mask (rhash M k) K ∈ t.place.toList) (hb : ∀ c, c < K → L2.way t.mask (rhash M k) c ∈ t.place.toList) {Q : SetFound → Shared → Prop}
    (q1 : k ∈ L.map (·.2) → Q (.there none) s) (q2 : ¬ k ∈ L.map (·.2) → Q (.free (L2.way t.mask (rhash M k) K) false) s) :
    ∀ (f c : Nat) (stand : Option SetTable.Probe), stand.getD (t.probeStart (rhash M k)) = L2.nth t.mask (L2.runAt t.mask (SetTable.bits (rhash M k) % (t.mask + 1)) (SetTable.bits (rhash M k))) c → c ≤ K → K - c < f →
      (∀ (i : Nat) (p : Addr × List κ), L[i]? = some p → p.2 = k → ∃ c', c ≤ c' ∧ c' < K ∧ t.place.toList[i]? = some (L2.way t.mask (rhash M k) c')) →
      wpAny (model P w) A (setSearchFrom a (.ref x) (rhash M k) true f stand) Q E s
  | 0, c, _, _, _, h, _ => absurd h (Nat.not_lt_zero _)
  | f + 1, c, stand, hst, hc, hfu, hin => by
    obtain ⟨o, x1, x2, x3⟩ := R.ob
    rw [L2.setSearchFrom_succ]
    refine wpAny_bind (wpAny_setState_of x1 x3 R.fits ?_)
    dsimp only
    rw [R.gw, hst]
    simp only [Bool.false_eq_true, ↓reduceIte]
    have hash_at : ∀ {i : Nat} {p : Addr × List κ}, L[i]? = some p → ((es[i]?).map (·.1)).getD 0 = rhash M p.2 := fun hp => by rw [R.row hp]; rfl
    have at_place : ∀ {i j : Nat}, t.place.toList[i]? = some j → ∃ p, L[i]? = some p := fun {i j} hi => by
      obtain ⟨hlt, _⟩ := List.getElem?_eq_some_iff.mp hi
      have : i < L.length := by
        rw [Array.length_toList, R.tab.sz, List.length_map] at hlt
        exact hlt
      exact ⟨L[i], List.getElem?_eq_getElem this⟩
    show wpAny (model P w) A (match SetTable.probe.go t (fun i => ((es[i]?).map (·.1)).getD 0) (rhash M k) (10 * SetTable.turns t.mask) _ with | some met => _ | _ => _) Q E s
    rcases probe_to R.tab (fun i => ((es[i]?).map (·.1)).getD 0) (rhash M k) hK hb (10 * SetTable.turns t.mask) c hc (by omega) with ⟨c', i, h1, h2, h3, h4, h5, h6⟩ | ⟨h1, h2⟩
    · rw [h6]
      dsimp only
      obtain ⟨p, hp⟩ := at_place h3
      have hmem : p ∈ L := List.mem_of_getElem? hp
      have rest : wpAny (model P w) A (L2.searchRest a (.ref x) (rhash M k) true f es t (L2.way t.mask (rhash M k) c') i (L2.nth t.mask (L2.runAt t.mask (SetTable.bits (rhash M k) % (t.mask + 1)) (SetTable.bits (rhash M k))) (c' + 1))) Q E s := by
        unfold L2.searchRest
        rw [R.row hp]
        dsimp only
        refine wpAny_bind (wpAny_holding ((tupleKind M.kd).eqBool ?_ (R.tup p hmem).key hx.key ?_))
        · exact hu
        refine wpAny_bind (wpAny_setState_of x1 x3 R.fits ?_)
        dsimp only
        by_cases e : p.2 = k
        · rw [decide_eq_true e]
          simp only [Bool.and_self, ↓reduceIte]
          exact wpAny_pure (q1 (List.mem_map.mpr ⟨p, hmem, e⟩))
        · rw [decide_eq_false e]
          simp only [Bool.and_false, Bool.false_eq_true, ↓reduceIte]
          rw [L2.sameMem]
          simp only [↓reduceIte]
          rw [L2.slot_live R.tab.ris h3]
          simp only []
          rw [R.row hp]
          simp only []
          refine wpAny_bind (wpAny_isSame_ref_self ?_)
          simp only [↓reduceIte]
          refine wpAny_bind (wpAny_pure ?_)
          simp only []
          refine RSet.find R hx hu hf hK hb q1 q2 f (c' + 1) _ rfl h2 (by omega) fun j r hr hk => ?_
          obtain ⟨c2, g1, g2, g3⟩ := hin j r hr hk
          refine ⟨c2, ?_, g2, g3⟩
          have hj : (((es[j]?).map (·.1)).getD 0 == rhash M k) = true := by
            rw [hash_at hr, hk]
            exact beq_self_eq_true _
          rcases Nat.lt_or_ge c2 c' with l | l
          · have := h5 c2 j g1 l g3
            rw [hj] at this
            cases this
          · rcases Nat.eq_or_lt_of_le l with rfl | l
            · have s1 := L2.slot_live R.tab.ris h3
              have s2 := L2.slot_live R.tab.ris g3
              rw [s1] at s2
              cases s2
              rw [hp] at hr
              cases hr
              exact absurd hk e
            · exact l
      split
      · refine wpAny_bind (seen_row hx (fun y hy => ?_) ?_)
        · obtain ⟨e, he, rfl⟩ := List.mem_map.mp hy
          rw [Array.mem_toList_iff, Array.mem_filter] at he
          have he2 := Array.mem_toList_iff.mpr he.1
          rw [R.rows] at he2
          obtain ⟨r, hr, rfl⟩ := List.mem_map.mp he2
          exact ⟨r.2, r.1, rfl, R.tup r hr⟩
        · simp only [Bool.false_eq_true, ↓reduceIte]
          exact rest
      · exact rest
    · rw [h2]
      dsimp only
      refine wpAny_pure (q2 fun hk => ?_)
      obtain ⟨r, hr, e⟩ := List.mem_map.mp hk
      obtain ⟨j, hj⟩ := List.getElem?_of_mem hr
      obtain ⟨c2, g1, g2, g3⟩ := hin j r hj e
      have := h1 c2 j g1 g2 g3
      rw [hash_at hj, e] at this
      simp at this
end
end DL

namespace DL
open PySem PySem.Spec PyProof PyProof.Rows L2
open Evl (Ex)
open RZ
/-! ### a row put into a set -/
section
variable {P : Program} {w : World} {κ : Type} [DecidableEq κ] {M : Atm P w κ} {A : Around} {E : Value → Shared → Prop} {s : Shared} {h g : Heap} {a : Addr} {L : List (Addr × List κ)} {es : Array (Int × Value)} {ep : Nat} {t : SetTable}
theorem RSet.search (R : RSet M s.heap a L es ep t) {x : Addr} {k : List κ} (hx : IsRow M s.heap k x) (hu : A.units < cLine) {Q : SetFound → Shared → Prop} (q1 : k ∈ L.map (·.2) → Q (.there none) s)
    (q2 : ∀ K, ¬ k ∈ L.map (·.2) → ¬ L2.way t.mask (rhash M k) K ∈ t.place.toList → (∀ c, c < K → L2.way t.mask (rhash M k) c ∈ t.place.toList) → Q (.free (L2.way t.mask (rhash M k) K) false) s) :
    wpAny (model P w) A (setSearch a (.ref x) (rhash M k) true) Q E s := by
  have hm : t.mask = 7 ∨ t.mask = 31 ∨ t.mask = 127 := R.tab.mok
  have hr := R.room
  obtain ⟨K, k1, k2, k3⟩ := R.tab.first (by rw [List.length_map]; omega) (rhash M k)
  have tn : SetTable.turns t.mask = t.mask + 15 := rfl
  refine R.find hx hu k1 k2 k3 q1 (fun nk => q2 K nk k2 k3) 100000 0 none (L2.start_run t _) (Nat.zero_le _) (by omega) fun i p hp hk => ?_
  have hh : (L.map fun p => rhash M p.2)[i]? = some (rhash M k) := by rw [List.getElem?_map, hp, ← hk]; rfl
  have hlt : i < t.place.toList.length := by
    rw [Array.length_toList, R.tab.sz, List.length_map]
    exact (List.getElem?_eq_some_iff.mp hp).1
  obtain ⟨c, c1, c2⟩ := R.tab.before k2 hh (List.getElem?_eq_getElem hlt)
  exact ⟨c, Nat.zero_le _, c1, by rw [c2]; exact List.getElem?_eq_getElem hlt⟩
theorem range_get {α : Type} : ∀ l : List α, (List.range l.length).filterMap (fun i => l[i]?) = l
  | [] => rfl
  | x :: r => by
    rw [List.length_cons, List.range_succ_eq_map, List.filterMap_cons]
    show x :: ((List.range r.length).map Nat.succ).filterMap (fun i => (x :: r)[i]?) = x :: r
    rw [List.filterMap_map]
    exact congrArg (x :: ·) (range_get r)
theorem order_of (es : Array (Int × Value)) (order : Array Nat) (he : es.toList = L.map fun p => (rhash M p.2, Value.ref p.1)) (ho : order.toList.Perm (List.range L.length)) :
    ∃ Lr : List (Addr × List κ), (Array.filterMap (fun x => es[x]?) order).toList = (Lr.map fun p => (rhash M p.2, Value.ref p.1)) ∧ Lr.Perm L ∧ (Lr.map fun p => rhash M p.2) = order.toList.map (fun i => (es.map (·.1)).getD i 0) := by
  have at_ : ∀ i, es[i]? = (L[i]?).map fun (p : Addr × List κ) => (rhash M p.2, Value.ref p.1) := fun i => by
    rw [← Array.getElem?_toList, he, List.getElem?_map]
  refine ⟨order.toList.filterMap (fun i => L[i]?), ?_, ?_, ?_⟩
  · rw [Array.toList_filterMap, List.map_filterMap]
    congr 1
    funext i
    exact at_ i
  · have := ho.filterMap fun i => L[i]?
    rwa [range_get] at this
  · have hl : ∀ i ∈ order.toList, i < L.length := fun i hi => List.mem_range.mp (ho.mem_iff.mp hi)
    generalize order.toList = l at hl
    induction l with
    | nil => rfl
    | cons i l ih =>
      have hi := hl i List.mem_cons_self
      rw [List.filterMap_cons, List.getElem?_eq_getElem hi]
      dsimp only
      rw [List.map_cons, List.map_cons, ih fun j hj => hl j (List.mem_cons_of_mem _ hj)]
      congr 1
      have e2 : (es.map (·.1))[i]? = some (rhash M L[i].2) := by
        rw [Array.getElem?_map, at_ i, List.getElem?_eq_getElem hi]; rfl
      rw [Array.getD_eq_getD_getElem?, e2]
      rfl
theorem RSet.relay {o : Obj} (x1 : s.heap.get? a = some o) (x2 : o.ExactSet) (x3 : o.data = .set es ep t) (hr : es.toList = L.map fun p => (rhash M p.2, Value.ref p.1)) (hp : t.place.size = es.size) (hd : t.dummies = #[]) (hm : es.size ≤ t.mask)
    (nd : (L.map (·.2)).Nodup) (tp : ∀ p ∈ L, IsRow M s.heap p.2 p.1) (ld : w.params.followText "set-order" = true ∨ t.led = true) (few : L.length < 64) {wanted Mk : Nat} (hw : SetTable.sizeAbove wanted - 1 = Mk) (mo : L2.MaskOk Mk) (h128 : SetTable.sizeAbove wanted ≤ 128) (hroom : L.length * 5 < Mk * 3)
    {Q : Unit → Shared → Prop} (fin : ∀ g L' es' ep' t', Heap.SameBut a s.heap g → RSet M g a L' es' ep' t' → L'.Perm L → Q () { s with heap := g }) : wpAny (model P w) A (setRelay a wanted) Q E s := by
  have sz : es.size = L.length := by rw [← Array.length_toList, hr, List.length_map]
  have fits : t.fits es.size = true := by
    unfold SetTable.fits SetTable.fill
    rw [hp, hd]
    simp
    exact hm
  have big : ¬ SetTable.sizeAbove wanted > sizeLine := by
    have : sizeLine = 16777216 := by decide
    omega
  obtain ⟨t', order, r1, r2, r3, r4, r5, r6, r7⟩ := L2.relaid_ok t (hs := es.map (·.1)) hw mo (by rw [Array.size_map]; omega)
  rw [Array.size_map, sz] at r2
  obtain ⟨Lr, l1, l2, l3⟩ := order_of es order hr r2
  have sz2 : (Array.filterMap (fun x => es[x]?) order).size = es.size := by
    rw [← Array.length_toList, l1, List.length_map, l2.length_eq, sz]
  rw [L2.setRelay_eq]
  refine wpAny_bind (wpAny_setState_of x1 x3 fits ?_)
  dsimp only
  rw [if_neg big, r1]
  dsimp only
  rw [if_neg (by rw [sz2]; simp)]
  refine wpAny_bind (wpAny_pure ?_)
  dsimp only
  have st := store_at (es' := Array.filterMap (fun x => es[x]?) order) (t' := t') x1 x3
  have sb := Heap.SameBut.update s.heap a (Obj.putSet (Array.filterMap (fun x => es[x]?) order) t')
  have b2 : (Array.filterMap (fun x => es[x]?) order).size ≤ sizeLine := by
    have : sizeLine = 16777216 := by decide
    rw [sz2, sz]; omega
  refine wpAny_storeSet_of x1 x3 ?_ b2
  refine fin _ Lr (Array.filterMap (fun x => es[x]?) order) (ep + 1) t' sb ⟨⟨_, st, x2, rfl⟩, l1, by rw [l3]; exact r3, (l2.map _).nodup_iff.mpr nd, fun p hp => (tp p (l2.mem_iff.mp hp)).same x1 x3 sb, ld.imp id fun z => by rw [r5]; exact z, by rw [l2.length_eq, r4]; exact hroom, by rw [l2.length_eq]; exact few⟩ l2
theorem ins_list {α : Type} (xs : Array α) (p : Nat) (x : α) : (SetTable.insertAt xs p x).toList = xs.toList.take p ++ x :: xs.toList.drop p := by
  unfold SetTable.insertAt
  simp
  exact List.take_of_length_le (by rw [List.length_drop, Array.length_toList]; exact Nat.le_refl _)
theorem RSet.put {o : Obj} (x1 : s.heap.get? a = some o) (x2 : o.ExactSet) (x3 : o.data = .set es ep t) (hr : es.toList = L.map fun p => (rhash M p.2, Value.ref p.1)) (nd : (L.map (·.2)).Nodup) (tp : ∀ p ∈ L, IsRow M s.heap p.2 p.1) (room : L.length * 5 < t.mask * 3) (few : L.length + 1 < 64)
    {x : Addr} {k : List κ} (hx : IsRow M s.heap k x) (nk : ¬ k ∈ L.map (·.2)) {tb : SetTable} {n : Nat} (hn : n ≤ L.length) (tab : L2.TabOk tb ((L.map fun p => rhash M p.2).take n ++ rhash M k :: (L.map fun p => rhash M p.2).drop n)) (hm : tb.mask = t.mask) (ld : w.params.followText "set-order" = true ∨ tb.led = true) (hf : tb.fill = L.length + 1)
    {Q : Bool → Shared → Prop} (fin : ∀ b g L' es' ep' t', Heap.SameBut a s.heap g → RSet M g a L' es' ep' t' → L'.Perm ((x, k) :: L) → Q b { s with heap := g }) :
    wpAny (model P w) A (do
        storeSet a (SetTable.insertAt es n (rhash M k, Value.ref x)) tb
        if (!false && tb.tooFull) = true then do
            setRelay a (SetTable.grown (es.size + 1))
            pure true
          else pure true) Q E s := by
  have sz : es.size = L.length := by rw [← Array.length_toList, hr, List.length_map]
  have rows : (SetTable.insertAt es n (rhash M k, Value.ref x)).toList = (L.take n ++ (x, k) :: L.drop n).map fun p => (rhash M p.2, Value.ref p.1) := by
    rw [ins_list, hr, List.map_append, List.map_cons, List.map_take, List.map_drop]
  have perm : (L.take n ++ (x, k) :: L.drop n).Perm ((x, k) :: L) := L2.put_perm L n (x, k)
  have lh : ((L.take n ++ (x, k) :: L.drop n).map fun p => rhash M p.2) = (L.map fun p => rhash M p.2).take n ++ rhash M k :: (L.map fun p => rhash M p.2).drop n := by
    rw [List.map_append, List.map_cons, List.map_take, List.map_drop]
  have len : (L.take n ++ (x, k) :: L.drop n).length = L.length + 1 := by rw [perm.length_eq, List.length_cons]
  have tab2 : L2.TabOk tb ((L.take n ++ (x, k) :: L.drop n).map fun p => rhash M p.2) := by rw [lh]; exact tab
  have nd2 : ((L.take n ++ (x, k) :: L.drop n).map (·.2)).Nodup := (perm.map _).nodup_iff.mpr (List.nodup_cons.mpr ⟨nk, nd⟩)
  have isz : (SetTable.insertAt es n (rhash M k, Value.ref x)).size = L.length + 1 := by rw [← Array.length_toList, rows, List.length_map, len]
  have b1 : (SetTable.insertAt es n (rhash M k, Value.ref x)).size ≤ sizeLine := by
    have : sizeLine = 16777216 := by decide
    rw [isz]; omega
  refine wpAny_bind (wpAny_storeSet_of x1 x3 ?_ b1)
  have st := store_at (es' := SetTable.insertAt es n (rhash M k, Value.ref x)) (t' := tb) x1 x3
  have sb := Heap.SameBut.update s.heap a (Obj.putSet (SetTable.insertAt es n (rhash M k, Value.ref x)) tb)
  have tp2 : ∀ p ∈ L.take n ++ (x, k) :: L.drop n, IsRow M (s.heap.update a (Obj.putSet (SetTable.insertAt es n (rhash M k, Value.ref x)) tb)) p.2 p.1 := fun p hp => by
    rcases List.mem_cons.mp (perm.mem_iff.mp hp) with rfl | hp
    · exact hx.same x1 x3 sb
    · exact (tp p hp).same x1 x3 sb
  have mo : tb.mask = 7 ∨ tb.mask = 31 ∨ tb.mask = 127 := tab.mok
  have tf : tb.tooFull = decide ((L.length + 1) * 5 ≥ tb.mask * 3) := by
    unfold SetTable.tooFull
    rw [hf]
  rw [tf]
  by_cases full : (L.length + 1) * 5 ≥ tb.mask * 3
  · rw [decide_eq_true full]
    simp only [Bool.not_false, Bool.and_self, ↓reduceIte]
    have go : ∀ (wt Mk : Nat), SetTable.grown (es.size + 1) = wt → SetTable.sizeAbove wt - 1 = Mk → L2.MaskOk Mk → SetTable.sizeAbove wt ≤ 128 → (L.length + 1) * 5 < Mk * 3 → wpAny (model P w) A (do
            setRelay a (SetTable.grown (es.size + 1))
            pure true) Q E { s with heap := s.heap.update a (Obj.putSet (SetTable.insertAt es n (rhash M k, Value.ref x)) tb) } := fun wt Mk e1 e2 e3 e4 e5 => by
      rw [e1]
      refine wpAny_bind (RSet.relay (M := M) (L := L.take n ++ (x, k) :: L.drop n) st (by exact x2) rfl rows ?_ tab2.dm ?_ nd2 tp2 ld (by omega) e2 e3 e4 (by rw [len]; exact e5) fun g L' es' ep' t' g1 g2 g3 => ?_)
      · rw [tab2.sz, List.length_map, len, isz]
      · rw [isz, hm]
        omega
      · exact wpAny_pure (fin true g L' es' ep' t' (sb.trans g1) g2 (g3.trans perm))
    rcases mo with m | m | m
    · have e : L.length = 4 := by omega
      exact go (SetTable.grown 5) 31 (by rw [sz, e]) (by rw [L2.size_20]) (.inr (.inl rfl)) (by rw [L2.size_20]; omega) (by omega)
    · have e : L.length = 18 := by omega
      exact go (SetTable.grown 19) 127 (by rw [sz, e]) (by rw [L2.size_76]) (.inr (.inr rfl)) (by rw [L2.size_76]; omega) (by omega)
    · omega
  · rw [decide_eq_false full]
    simp only [Bool.not_false, Bool.and_false, Bool.false_eq_true, ↓reduceIte]
    exact wpAny_pure (fin true _ _ _ _ tb sb ⟨⟨_, st, x2, rfl⟩, rows, tab2, nd2, tp2, ld, by rw [len]; omega, by omega⟩ perm)
theorem RSet.add (R : RSet M s.heap a L es ep t) {x : Addr} {k : List κ} (hx : IsRow M s.heap k x) (hu : A.units < cLine) (hl : ¬ k ∈ L.map (·.2) → L.length + 1 < 64) {Q : Bool → Shared → Prop}
    (fin : ∀ b g L' es' ep' t', Heap.SameBut a s.heap g → RSet M g a L' es' ep' t' → (k ∈ L.map (·.2) → L' = L) → (¬ k ∈ L.map (·.2) → L'.Perm ((x, k) :: L)) → Q b { s with heap := g }) :
    wpAny (model P w) A (setAddHashed a (.ref x) (rhash M k)) Q E s := by
  have R0 := R
  obtain ⟨⟨o, x1, x2, x3⟩, hr, tab, nd, tp, ld, room, few⟩ := R
  unfold setAddHashed
  refine wpAny_holding ?_
  rw [L2.setAddHashedIn_succ]
  refine wpAny_bind (wpAny_setState_of x1 x3 R0.fits ?_)
  dsimp only
  rw [if_neg (by unfold byScan; simp [Value.scannable])]
  refine wpAny_bind (R0.search hx hu (fun hk => ?_) fun K nk k2 k3 => ?_)
  · exact wpAny_pure (fin false s.heap L es ep t (Heap.SameBut.refl a s.heap) R0 (fun _ => rfl) fun n => absurd hk n)
  · dsimp only
    refine wpAny_bind (wpAny_setState_of x1 x3 R0.fits ?_)
    dsimp only
    have few1 := hl nk
    obtain ⟨p1, p2, p3, p4, p5, p6, p7, p8, p9⟩ := tab.put k2 k3
    generalize L2.way t.mask (rhash M k) K = j at *
    rw [List.length_map] at p2 p9
    rw [p1]
    have go : ∀ tb : SetTable, L2.TabOk tb ((L.map fun p => rhash M p.2).take (SetTable.below t.place j) ++ rhash M k :: (L.map fun p => rhash M p.2).drop (SetTable.below t.place j)) → tb.mask = t.mask → tb.led = t.led → tb.fill = L.length + 1 → wpAny (model P w) A (do
        storeSet a (SetTable.insertAt es (SetTable.below t.place j) (rhash M k, Value.ref x)) tb
        if (!false && tb.tooFull) = true then do
            setRelay a (SetTable.grown (es.size + 1))
            pure true
          else pure true) Q E s := fun tb t1 t2 t3 t4 =>
      RSet.put x1 x2 x3 hr nd tp room few1 hx nk p2 t1 t2 (ld.imp id fun z => by rw [t3]; exact z) t4 fun b g L' es' ep' t' g1 g2 g3 => fin b g L' es' ep' t' g1 g2 (fun hk => absurd hk nk) fun _ => g3
    by_cases hp : (t.put j).1.plain = true
    · rw [if_pos hp]
      refine wpAny_bind (hash_row hx fun b => ?_)
      cases b
      · exact go { (t.put j).1 with plain := false } ⟨p3.ris, p3.dm, p3.sz, p3.mok, p3.bd, p3.reach⟩ p4 p5 p9
      · exact go (t.put j).1 p3 p4 p5 p9
    · rw [if_neg hp]
      refine wpAny_bind (wpAny_pure ?_)
      exact go (t.put j).1 p3 p4 p5 p9
end
end DL

namespace DL
open PySem PySem.Spec PyProof PyProof.Rows L2
open Evl (Ex)
open RZ
/-! ### set(x), x a list or a tuple of rows -/
def ddK {α : Type} [DecidableEq α] : List α → List α
  | [] => []
  | x :: r => if x ∈ r then ddK r else x :: ddK r
theorem ddK_mem {α : Type} [DecidableEq α] {y : α} : ∀ {l : List α}, y ∈ ddK l ↔ y ∈ l
  | [] => .rfl
  | x :: r => by
    unfold ddK
    split
    · rw [ddK_mem, List.mem_cons]
      exact ⟨.inr, fun z => z.elim (fun e => e ▸ (by assumption)) id⟩
    · rw [List.mem_cons, ddK_mem, List.mem_cons]
theorem ddK_nodup {α : Type} [DecidableEq α] : ∀ l : List α, (ddK l).Nodup
  | [] => .nil
  | x :: r => by
    unfold ddK
    split
    · exact ddK_nodup r
    · exact List.nodup_cons.mpr ⟨fun h => (by assumption : ¬ x ∈ r) (ddK_mem.mp h), ddK_nodup r⟩
theorem sub_len {α : Type} [DecidableEq α] : ∀ {l m : List α}, l.Nodup → (∀ x ∈ l, x ∈ m) → l.length ≤ m.length
  | [], m, _, _ => Nat.zero_le _
  | x :: r, m, h, s => by
    obtain ⟨h1, h2⟩ := List.nodup_cons.mp h
    have hx : x ∈ m := s x List.mem_cons_self
    have h3 : r.length ≤ (m.erase x).length := sub_len h2 fun y hy => (List.mem_erase_of_ne fun e => h1 (by rw [← e]; exact hy)).mpr (s y (List.mem_cons_of_mem _ hy))
    have h4 := List.length_erase_of_mem hx
    have h5 : 0 < m.length := List.length_pos_of_mem hx
    rw [List.length_cons]
    omega
section
variable {P : Program} {w : World} {κ : Type} [DecidableEq κ] {M : Atm P w κ} {A : Around} {E : Value → Shared → Prop} {s : Shared}
theorem take_snoc {α : Type} {l : List α} {i : Nat} {x y : α} (h : l[i]? = some x) : y ∈ l.take (i + 1) ↔ y ∈ l.take i ∨ y = x := by
  rw [List.take_add_one, h]
  simp
theorem RSet.loop {I : Addr} {fp wr : List Addr} {G : Array GenState → Array GenState → Prop} {n : Nat} {Pv : Nat → Value → Prop} {St : Nat → Shared → Prop} {R : Result → Shared → Prop}
    (W : WalksS P w A.in1 I fp wr G n Pv St) (D : Addr) (nD : D ∉ fp) (ks : List (Addr × List κ)) (hn : n = ks.length) (hb : (ddK (ks.map (·.2))).length < 64) (hv : ∀ i v, Pv i v → ∃ p, ks[i]? = some p ∧ v = Value.ref p.1)
    (h0 : Heap) (hk : ∀ p ∈ ks, IsRow M h0 p.2 p.1) (d0 : h0.get? D = none) (w0 : ∀ b ∈ wr, h0.get? b = none) (hu : A.in1.units < cLine) :
    ∀ (m i : Nat) (s : Shared), n - i = m → i ≤ n → St i s → (∀ b o, h0.get? b = some o → s.heap.get? b = some o) → (∃ L es ep t, RSet M s.heap D L es ep t ∧ (∀ k, k ∈ L.map (·.2) ↔ k ∈ (ks.take i).map (·.2)) ∧ ∀ p ∈ L, p ∈ ks) →
      (∀ s2 L es ep t, Moved (D :: wr) G s s2 → RSet M s2.heap D L es ep t → (∀ k, k ∈ L.map (·.2) ↔ k ∈ ks.map (·.2)) → (∀ p ∈ L, p ∈ ks) → R (.ok (.ret .none)) s2) →
      codeAny (model P w) A (.builtin "set.update.loop" ⟨[.ref D, .ref I], []⟩) R s := by
  have nw : D ∉ wr := fun h => nD (W.sub _ h)
  have sub : ∀ b ∈ wr, b ∈ D :: wr := fun b hb => List.mem_cons_of_mem _ hb
  intro m
  induction m with
  | zero =>
    intro i s hm hi st k0 ⟨L, es, ep, t, hS, hL, hp⟩ fin
    have hin : i = n := by omega
    subst hin
    refine codeAny_builtin F.entry_set_update_loop ?_
    rw [Around.under_plainId F.plain_set_update_loop _]
    show wpAny _ A.in1 (pyNext (.ref I) >>= _) _ _ s
    refine wpAny_bind (W.done s _ _ st fun s2 mv => ?_)
    show wpAny _ A.in1 (ret Value.none) _ _ s2
    rw [show ks.take i = ks from List.take_of_length_le (by omega)] at hL
    have keepD : ∀ o, s.heap.get? D = some o → s2.heap.get? D = some o := fun o e => mv.heap D o nw e
    obtain ⟨⟨o, x1, x2⟩, a2, a3, a4, a5, a6, a7, a8⟩ := hS
    refine wpAny_pure (fin s2 L es ep t (mv.mono sub) ⟨⟨o, keepD o x1, x2⟩, a2, a3, a4, fun p h => ?_, a6, a7, a8⟩ hL hp)
    refine (hk p (hp p h)).keep fun c u e => ?_
    exact mv.heap c u (fun z => by rw [w0 c z] at e; cases e) (k0 c u e)
  | succ m ih =>
    intro i s hm hi st k0 ⟨L, es, ep, t, hS, hL, hp⟩ fin
    have hlt : i < n := by omega
    refine codeAny_builtin F.entry_set_update_loop ?_
    rw [Around.under_plainId F.plain_set_update_loop _]
    show wpAny _ A.in1 (pyNext (.ref I) >>= _) _ _ s
    refine wpAny_bind (W.item i s _ _ hlt st fun v s2 hP st2 mv => ?_)
    obtain ⟨r, hr, rfl⟩ := hv i v hP
    have hrm : r ∈ ks := List.mem_of_getElem? hr
    have k2 : ∀ b o, h0.get? b = some o → s2.heap.get? b = some o := fun b o e => mv.heap b o (fun z => by rw [w0 b z] at e; cases e) (k0 b o e)
    have S2 : RSet M s2.heap D L es ep t := by
      obtain ⟨⟨o, x1, x2⟩, a2, a3, a4, a5, a6, a7, a8⟩ := hS
      exact ⟨⟨o, mv.heap D o nw x1, x2⟩, a2, a3, a4, fun p h => (hk p (hp p h)).keep k2, a6, a7, a8⟩
    have row2 : IsRow M s2.heap r.2 r.1 := (hk r hrm).keep k2
    show wpAny _ A.in1 (holding [Value.ref r.1] (setAdd D (.ref r.1)) >>= _) _ _ s2
    refine wpAny_bind (wpAny_holding ?_)
    unfold setAdd
    refine wpAny_holding ?_
    refine wpAny_bind ((tupleKind M.kd).pyHash hu row2.key ?_)
    have few : ¬ r.2 ∈ L.map (·.2) → L.length + 1 < 64 := fun nk => by
      have h1 : (r.2 :: L.map (·.2)).Nodup := List.nodup_cons.mpr ⟨nk, S2.nd⟩
      have h2 := sub_len h1 (m := ddK (ks.map (·.2))) fun x hx => by
        rw [ddK_mem]
        rcases List.mem_cons.mp hx with rfl | hx
        · exact List.mem_map.mpr ⟨r, hrm, rfl⟩
        · obtain ⟨p, h3, rfl⟩ := List.mem_map.mp hx
          exact List.mem_map.mpr ⟨p, hp p h3, rfl⟩
      rw [List.length_cons, List.length_map] at h2
      omega
    refine RSet.add (s := { s2 with toks := s2.toks + (tupleKind M.kd).draws r.2 }) S2 row2 hu few fun b g L' es' ep' t' sb R2 e1 e2 => ?_
    have hL' : ∀ k, k ∈ L'.map (·.2) ↔ k ∈ (ks.take (i + 1)).map (·.2) := fun k => by
      have hs : k ∈ (ks.take (i + 1)).map (·.2) ↔ k ∈ (ks.take i).map (·.2) ∨ k = r.2 := by
        constructor
        · intro z
          obtain ⟨p, h1, rfl⟩ := List.mem_map.mp z
          rcases (take_snoc hr).mp h1 with h | rfl
          · exact .inl (List.mem_map.mpr ⟨p, h, rfl⟩)
          · exact .inr rfl
        · rintro (z | rfl)
          · obtain ⟨p, h1, rfl⟩ := List.mem_map.mp z
            exact List.mem_map.mpr ⟨p, (take_snoc hr).mpr (.inl h1), rfl⟩
          · exact List.mem_map.mpr ⟨r, (take_snoc hr).mpr (.inr rfl), rfl⟩
      rw [hs, ← hL k]
      by_cases c : r.2 ∈ L.map (·.2)
      · rw [e1 c]
        exact ⟨.inl, fun z => z.elim id fun e => e ▸ c⟩
      · have := ((e2 c).map (·.2)).mem_iff (a := k)
        rw [this, List.map_cons, List.mem_cons]
        exact Or.comm
    have hp' : ∀ p ∈ L', p ∈ ks := fun p h => by
      by_cases c : r.2 ∈ L.map (·.2)
      · rw [e1 c] at h
        exact hp p h
      · rcases List.mem_cons.mp ((e2 c).mem_iff.mp h) with rfl | h
        · exact hrm
        · exact hp p h
    have kg : ∀ b o, h0.get? b = some o → g.get? b = some o := fun b o e => by
      rw [sb.2 b (fun z => by rw [z, d0] at e; cases e)]
      exact k2 b o e
    refine wpAny_pure ⟨plainId_quiet F.plain_set_update_loop _, ih (i + 1) _ (by omega) hlt (W.frame _ s2 _ _ st2 (Nat.le_add_right _ _) fun b hb o e => ?_) kg ⟨L', es', ep', t', R2, hL', hp'⟩ fun s4 L4 es4 ep4 t4 mv2 R4 h4 h5 => ?_⟩
    · rw [sb.2 b (fun h : b = D => nD (by rw [← h]; exact hb))]; exact e
    · refine fin s4 L4 es4 ep4 t4 (Moved.trans W.gtrans ((mv.mono sub).then_heap (Nat.le_add_right _ _) fun b o hb e => ?_) mv2) R4 h4 h5
      rw [sb.2 b (fun h : b = D => hb (by rw [h]; exact List.mem_cons_self))]; exact e
theorem RSet.empty {h : Heap} {a : Addr} (x1 : h.get? a = some (setO0 w)) : RSet M h a [] #[] 0 (.fresh 0 0 (!w.params.followText "set-order")) := by
  refine ⟨⟨_, x1, ⟨rfl, rfl, rfl⟩, rfl⟩, rfl, ⟨List.Pairwise.nil, rfl, rfl, .inl rfl, (fun x h => by simp [SetTable.fresh] at h), fun i h j e => by simp at e⟩, .nil, (fun p h => nomatch h), ?_, by show 0 * 5 < 7 * 3; decide, by show 0 < 64; decide⟩
  show _ ∨ (!w.params.followText "set-order") = true
  cases w.params.followText "set-order"
  · exact .inr rfl
  · exact .inl rfl
set_option maxHeartbeats 4000000 in
/-- set(x), x a list or a tuple -/
theorem RSet.of {d : Bool × Nat × Array Value} {ks : List (Addr × List κ)} {Q : Value → Shared → Prop} (hh : A.handled = none) (hl : isSeq d s.heap) (hz : d.2.2.size = ks.length) (hv : ∀ (i : Nat) (v : Value), d.2.2[i]? = some v → ∃ p, ks[i]? = some p ∧ v = Value.ref p.1) (hb : (ddK (ks.map (·.2))).length < 64) (hk0 : ∀ p ∈ ks, IsRow M s.heap p.2 p.1) (hu : A.units + 8 < cLine)
    (fin : ∀ (g : Heap) (tk : Nat) L es ep t, RSet M g s.heap.objs.size L es ep t → (∀ k, k ∈ L.map (·.2) ↔ k ∈ ks.map (·.2)) → (∀ p ∈ L, p ∈ ks) → (∀ b o, s.heap.get? b = some o → g.get? b = some o) → Q (.ref s.heap.objs.size) { s with heap := g, toks := tk }) :
    wpAny (model P w) A (call (.type "set") [.ref d.2.1]) Q E s := by
  obtain ⟨b, l, items⟩ := d
  dsimp only at hz hv ⊢
  obtain ⟨cl, tl, hmro⟩ := F.called_set.mro
  have hmade := F.called_set.made
  have hsub := F.called_set.sub
  refine wpAny_call (codeAny_of_tree ?_)
  show wpAny _ _ (callAny (.type "set") _) _ _ _
  refine wpAny_pure ⟨Code.quiet_builtin _ (by decide +kernel), codeAny_builtin F.entry_type_call ?_⟩
  rw [Around.under_plain (weight_type_call_type "set" [.ref l] []) rfl]
  have f1 := F.called_set.notType
  have f2 := F.called_set.canCreate
  have f3 := F.typeCall_set_1 (.ref l)
  repeat (any_goals (first | assumption | wp_step))
  refine codeAny_mono (code_set_led1 (.ref l) (E := E) (Q₁ := fun ob s₁ => ob = .ref s.heap.objs.size ∧ s₁ = { s with heap := s.heap.push (setO0 w) }) ⟨rfl, rfl⟩) fun r s₁ hr => ?_
  cases r with
  | error e => exact hr
  | ok fl =>
    cases fl with
    | ret ob =>
      obtain ⟨rfl, rfl⟩ := hr
      have gS : (s.heap.push (setO0 w)).get? s.heap.objs.size = some (setO0 w) := Heap.get?_push_size _ rfl
      have hT : Shared.TypeIs { s with heap := s.heap.push (setO0 w) } (.ref s.heap.objs.size) "set" := ⟨_, gS, rfl⟩
      have hli := F.called_set.init.lookup
      have hbi := F.called_set.init.bind (.ref s.heap.objs.size)
      repeat (any_goals (first | assumption | wp_step))
      have hlS : l < s.heap.objs.size := hl.lt
      have h1s : (s.heap.push (setO0 w)).objs.size = s.heap.objs.size + 1 := Heap.size_push ..
      have nI : l ≠ (s.heap.push (setO0 w)).objs.size := by
        rw [h1s]; exact Nat.ne_of_lt (Nat.lt_succ_of_lt hlS)
      have nS : s.heap.objs.size ∉ [(s.heap.push (setO0 w)).objs.size, l] := by
        rw [h1s]; simp only [List.mem_cons, List.not_mem_nil, or_false, not_or]
        exact ⟨Nat.ne_of_lt (Nat.lt_succ_self _), Nat.ne_of_gt hlS⟩
      have hh3 : A.in1.in1.in1.handled = none := by simp [hh]
      have hd0 : s.heap.get? s.heap.objs.size = none := by
        cases e : s.heap.get? s.heap.objs.size with
        | none => rfl
        | some o => exact absurd (Heap.lt_size e) (Nat.lt_irrefl _)
      have hw0 : ∀ b ∈ [(s.heap.push (setO0 w)).objs.size], s.heap.get? b = none := fun b hb => by
        rw [List.mem_singleton.mp hb, h1s]
        cases e : s.heap.get? (s.heap.objs.size + 1) with
        | none => rfl
        | some o => exact absurd (Heap.lt_size e) (Nat.not_lt.mpr (Nat.le_succ _))
      have hu3 : A.in1.in1.in1.units < cLine := by
        show A.units + 1 + 1 + 1 < cLine
        omega
      refine codeAny_mono (codeAny_call_builtin (R := wants (fun r s₂ => r = .none ∧ ∃ g tk L es ep t, s₂ = { s with heap := g, toks := tk } ∧ RSet M g s.heap.objs.size L es ep t ∧ (∀ k, k ∈ L.map (·.2) ↔ k ∈ ks.map (·.2)) ∧ (∀ p ∈ L, p ∈ ks) ∧
          (∀ b o, s.heap.get? b = some o → g.get? b = some o)) E) F.called_set.init.plain F.entry_set_init (check_set_init_1 hT ?_)) fun r₂ s₂ hr₂ => ?_
      · have done : ∀ (io : Obj) (s2 : Shared) L es ep t, Moved (s.heap.objs.size :: [(s.heap.push (setO0 w)).objs.size]) (fun a b => b = a) { s with heap := (s.heap.push (setO0 w)).push io } s2 → RSet M s2.heap s.heap.objs.size L es ep t → (∀ k, k ∈ L.map (·.2) ↔ k ∈ ks.map (·.2)) → (∀ p ∈ L, p ∈ ks) →
            wants (fun r s₂ => r = .none ∧ ∃ g tk L es ep t, s₂ = { s with heap := g, toks := tk } ∧ RSet M g s.heap.objs.size L es ep t ∧ (∀ k, k ∈ L.map (·.2) ↔ k ∈ ks.map (·.2)) ∧ (∀ p ∈ L, p ∈ ks) ∧ (∀ b o, s.heap.get? b = some o → g.get? b = some o)) E (.ok (.ret .none)) s2 := fun io s2 L es ep t mv hS hL hp => by
          obtain ⟨g, g2, d2, tk, os2⟩ := s2
          have e1 : g2 = s.gens := mv.gens
          have e2 : d2 = s.drawn := mv.drawn
          have e3 : os2 = s.os := mv.os
          subst e1 e2 e3
          refine ⟨rfl, g, tk, L, es, ep, t, rfl, hS, hL, hp, fun b o e => ?_⟩
          have b0 : b < s.heap.objs.size := Heap.lt_size e
          exact mv.heap b o (by
            simp only [List.mem_cons, List.not_mem_nil, or_false, not_or]
            exact ⟨Nat.ne_of_lt b0, by rw [h1s]; exact Nat.ne_of_lt (Nat.lt_succ_of_lt b0)⟩) (Heap.get?_push_of_some _ (Heap.get?_push_of_some _ e))
        cases b with
        | true =>
          have hL : s.heap.IsList l items := hl
          obtain ⟨ol, hol, hcl, nl, hdl⟩ := hL
          obtain ⟨ocls, odict, odata, oslots⟩ := ol
          simp only at hcl hdl
          subst hcl; subst hdl
          have hol2 : (s.heap.push (setO0 w)).get? l = some { cls := .type "list", dict := odict, data := .seq items nl, slots := oslots } := Heap.get?_push_of_some _ hol
          have hs1 := F.sub_list_set
          have hs2 := F.sub_list_frozenset
          have hne : (Value.type "list" == Value.type "dict") = false := by decide
          have hL1 : (s.heap.push (setO0 w)).IsList l items := ⟨_, hol2, rfl, nl, rfl⟩
          unfold Builtin.«set.__init__» noKeywords Builtin.Frozenset.updateFrom
          generalize hPI : pyIter = PI
          wp_walk
          subst hPI
          refine wpAny_pyIter_list hL1 ?_
          refine wpAny_bind (wpAny_runValue ?_)
          refine RSet.loop ((Walks.list hh3 _ l nI items).toS) s.heap.objs.size nS ks hz hb hv s.heap hk0 hd0 hw0 hu3 (items.size - 0) 0 _ (by omega) (Nat.zero_le _) ⟨⟨_, Heap.get?_push_size _ rfl, rfl, rfl⟩, (hL1.push _)⟩ (fun b o e => Heap.get?_push_of_some _ (Heap.get?_push_of_some _ e)) ?_ ?_
          · exact ⟨[], #[], 0, _, RSet.empty (Heap.get?_push_of_some _ gS), fun k => by simp, fun p h => nomatch h⟩
          · intro s2 L es ep t mv hS hL hp
            show wpAny _ _ _ _ _ _
            refine wpAny_pure ?_
            show wpAny _ _ (ret Value.none) _ _ _
            exact wpAny_pure (done _ s2 L es ep t mv hS hL hp)
        | false =>
          have hL : s.heap.IsTuple l items := hl
          obtain ⟨ol, hol, hcl, nl, hdl⟩ := hL
          obtain ⟨ocls, odict, odata, oslots⟩ := ol
          simp only at hcl hdl
          subst hcl; subst hdl
          have hol2 : (s.heap.push (setO0 w)).get? l = some { cls := .type "tuple", dict := odict, data := .seq items nl, slots := oslots } := Heap.get?_push_of_some _ hol
          have hs1 := F.sub_tuple_set
          have hs2 := F.sub_tuple_frozenset
          have hne : (Value.type "tuple" == Value.type "dict") = false := by decide
          have hL1 : (s.heap.push (setO0 w)).IsTuple l items := ⟨_, hol2, rfl, nl, rfl⟩
          unfold Builtin.«set.__init__» noKeywords Builtin.Frozenset.updateFrom
          generalize hPI : pyIter = PI
          wp_walk
          subst hPI
          refine wpAny_pyIter_tuple hL1 ?_
          refine wpAny_bind (wpAny_runValue ?_)
          refine RSet.loop ((Walks.tuple hh3 _ l nI items).toS) s.heap.objs.size nS ks hz hb hv s.heap hk0 hd0 hw0 hu3 (items.size - 0) 0 _ (by omega) (Nat.zero_le _) ⟨⟨_, Heap.get?_push_size _ rfl, rfl, rfl⟩, (hL1.push _)⟩ (fun b o e => Heap.get?_push_of_some _ (Heap.get?_push_of_some _ e)) ?_ ?_
          · exact ⟨[], #[], 0, _, RSet.empty (Heap.get?_push_of_some _ gS), fun k => by simp, fun p h => nomatch h⟩
          · intro s2 L es ep t mv hS hL hp
            show wpAny _ _ _ _ _ _
            refine wpAny_pure ?_
            show wpAny _ _ (ret Value.none) _ _ _
            exact wpAny_pure (done _ s2 L es ep t mv hS hL hp)
      · cases r₂ with
        | error e => exact hr₂
        | ok fl₂ =>
          cases fl₂ with
          | ret r =>
            obtain ⟨rfl, g, tk, L, es, ep, t, rfl, hS, hL, hp, hk⟩ := hr₂
            repeat (any_goals (first | assumption | wp_step))
            exact fin _ _ _ _ _ _ hS hL hp hk
          | _ => exact hr₂.elim
    | _ => exact hr.elim
end
end DL

namespace DL
open PySem PySem.Spec PyProof PyProof.Rows L2
open Evl (Ex)
open RZ
/-! ### sorted(a set of rows) -/
section
variable {P : Program} {w : World} {κ : Type} [DecidableEq κ] {M : Atm P w κ} {A : Around} {E : Value → Shared → Prop} {s : Shared} {a : Addr} {L : List (Addr × List κ)} {es : Array (Int × Value)} {ep : Nat} {t : SetTable}
theorem perm_map_back {α β : Type} (f : α → β) : ∀ {l : List β} {m : List α}, l.Perm (m.map f) → ∃ n : List α, n.Perm m ∧ l = n.map f
  | [], m, h => by
    have := h.length_eq
    rw [List.length_map] at this
    have e : m = [] := List.length_eq_zero_iff.mp this.symm
    exact ⟨[], by rw [e], rfl⟩
  | x :: l, m, h => by
    obtain ⟨y, hy, rfl⟩ := List.mem_map.mp (h.mem_iff.mp List.mem_cons_self)
    obtain ⟨m1, m2, rfl⟩ := List.append_of_mem hy
    have hp : (m1 ++ y :: m2).Perm (y :: (m1 ++ m2)) := List.perm_middle
    have h2 : (f y :: l).Perm (f y :: (m1 ++ m2).map f) := h.trans (hp.map f)
    obtain ⟨n, h3, rfl⟩ := perm_map_back f (List.Perm.cons_inv h2)
    exact ⟨y :: n, (h3.cons y).trans hp.symm, rfl⟩
theorem sorted_rows {sh : Nat → Bool} {kR : List κ → RKey} {Q : Value → Shared → Prop} (R : RSet M s.heap a L es ep t) (hh : A.handled = none)
    (hit : ∀ p ∈ L, p.2 ≠ [] ∧ ∀ us, RowA M p.2 us → tupItems sh 0 us = some (kR p.2)) (hf : ∀ k t, (sh 0 = false → ∃ i u, M.val k t = Value.int i u) ∧ (sh 0 = true → ∃ i u, M.val k t = Value.str i u))
    (fin : ∀ s2 p (out : Array Value) (c : Nat) (L' : List (Addr × List κ)), (∀ b o, s.heap.get? b = some o → s2.heap.get? b = some o) → s2.gens = s.gens → s2.os = s.os → s.heap.objs.size ≤ p →
      s2.heap.get? p = some (seqObj "list" out c) → out.toList = L'.map (fun q => Value.ref q.1) → L'.Perm L → L'.Pairwise (fun q r => ltR (kR r.2) (kR q.2) = false) → Q (.ref p) s2) :
    wpAny (model P w) A (call (.builtin "sorted") [.ref a]) Q E s := by
  obtain ⟨ob, x1, x2, x3⟩ := R.ob
  refine Calls.call_function_entry kind_sorted plain_sorted entry_sorted (args_sorted1 _) ?_
  unfold Builtin.«sorted»
  refine wpAny_bind (m := checkCount "sorted" 1 1 _) (wpAny_pure ?_)
  have sz := R.size
  have few := R.few
  refine wpAny_bind (collect_set (A := A.in1) hh ⟨ob, x1, x2.1, x3⟩ R.fits (by show es.size < 4096; omega) R.tab.ris R.led fun s1 vs k1 hz g1 o1 pm => ?_)
  have pm2 : vs.Perm (L.map fun q => Value.ref q.1) := by
    have e : es.toList.map (·.2) = L.map fun q => Value.ref q.1 := by
      rw [R.rows, List.map_map]; rfl
    rw [← e]
    exact pm
  obtain ⟨L1, l1, rfl⟩ := perm_map_back (fun q : Addr × List κ => Value.ref q.1) pm2
  have vl : (L1.map fun q => Value.ref q.1).length = L.length := by rw [List.length_map, l1.length_eq]
  have sl : (L1.map fun q => Value.ref q.1).length ≤ sizeLine := by
    have h5 : sizeLine = 16777216 := by decide
    omega
  refine wpAny_bind (wpAny_newList ?_ sl)
  have oL : (s1.heap.push (seqObj "list" (L1.map fun q => Value.ref q.1).toArray 0)).get? s1.heap.objs.size = some (seqObj "list" (L1.map fun q => Value.ref q.1).toArray 0) := Heap.get?_push_size _ rfl
  have row1 : ∀ q ∈ L1, ∃ o items n, (s1.heap.push (seqObj "list" (L1.map fun q => Value.ref q.1).toArray 0)).get? q.1 = some o ∧ o.cls = .type "tuple" ∧ o.data = .seq items n ∧ RowA M q.2 items.toList := fun q hq =>
    (R.tup q (l1.mem_iff.mp hq)).keep fun c o e => Heap.get?_push_of_some _ (k1 c o e)
  generalize hH : s1.heap.push (seqObj "list" (L1.map fun q => Value.ref q.1).toArray 0) = H1 at oL row1 ⊢
  have tup1 : ∀ q ∈ L1, ∃ f, TupOf H1 sh (Value.ref q.1) f := fun q hq => by
    obtain ⟨o, items, n, h1, h2, h3, h4⟩ := row1 q hq
    have hne := (hit q (l1.mem_iff.mp hq)).1
    cases hq2 : q.2 with
    | nil => exact absurd hq2 hne
    | cons k ks =>
      rw [hq2] at h4
      generalize hv : items.toList = us at h4
      cases h4 with
      | @cons _ tk _ us h5 =>
        refine ⟨M.val k tk, q.1, o, items, n, rfl, h1, h2, h3, ?_, (hf k tk).1, (hf k tk).2⟩
        rw [← Array.getElem?_toList, hv]
        rfl
  have kC : ∀ q ∈ L1, PyProof.Rows.G.tupKeyC H1 sh (Value.ref q.1) = some (kR q.2) := fun q hq => by
    obtain ⟨⟨oc, od, dt, sl⟩, items, n, h1, h2, h3, h4⟩ := row1 q hq
    simp only at h2 h3
    subst h2 h3
    unfold PyProof.Rows.G.tupKeyC
    rw [if_pos (by simp [PyProof.Rows.G.isTupObj, h1])]
    unfold PyProof.Rows.tupKey
    simp only [h1]
    exact (hit q (l1.mem_iff.mp hq)).2 _ h4
  obtain ⟨kinds, hfs⟩ := tups_of (h := H1) (sh := sh) (vs := L1.map fun q => Value.ref q.1) fun v hv => by
    obtain ⟨q, hq, rfl⟩ := List.mem_map.mp hv
    obtain ⟨f, u, o, us, n, e, r⟩ := tup1 q hq
    exact ⟨f, u, o, us, n, e, r⟩
  refine wpAny_bind (wpAny_holding (wpAny_call_entry slot_list_sort ⟨_, oL, rfl⟩ entry_list_sort (PyProof.Rows.G.list_sort_tups (shape := sh) (fs := kinds) (s := { s1 with heap := H1 }) oL hfs (fun v hv => ?_) sl fun st hp hs _ => ⟨_, rfl, ?_⟩) (args_list_sort _)))
  · obtain ⟨q, hq, rfl⟩ := List.mem_map.mp hv
    exact ⟨_, kC q hq⟩
  · have h1 : (arrOf st).toList.Perm ((L1.map fun q => Value.ref q.1).zip (L1.map fun q => Value.ref q.1)) := by
      have := Array.perm_iff_toList_perm.mp hp
      rw [pairsOf_toList] at this
      exact this
    have zm : ∀ l : List (Addr × List κ), (l.map fun q => Value.ref q.1).zip (l.map fun q => Value.ref q.1) = l.map fun q => (Value.ref q.1, Value.ref q.1) := fun l => by
      induction l with
      | nil => rfl
      | cons x l ih => rw [List.map_cons, List.zip_cons_cons, ih]; rfl
    rw [zm] at h1
    obtain ⟨L2', l2, e2⟩ := perm_map_back (fun q : Addr × List κ => (Value.ref q.1, Value.ref q.1)) h1
    obtain ⟨c, hc⟩ := sortedHeap_at (vs := L1.map fun q => Value.ref q.1) (out := (arrOf st).map (·.2)) oL
    refine wpAny_pure ⟨_, rfl, fin _ s1.heap.objs.size ((arrOf st).map (·.2)) c L2' (fun b u e => ?_) g1 o1 hz hc ?_ (l2.trans l1) ?_⟩
    · have q := k1 b u e
      have hlt := Heap.lt_size q
      show (sortedHeap H1 s1.heap.objs.size (L1.map fun q => Value.ref q.1) ((arrOf st).map (·.2))).get? b = some u
      rw [← hH, sortedHeap_old (Nat.ne_of_lt hlt) (by rw [size_push']; exact Nat.lt_succ_of_lt hlt)]
      exact Heap.get?_push_of_some _ q
    · rw [Array.toList_map, e2, List.map_map]
      rfl
    · have hsz : (arrOf st).size = (pairsOf (L1.map fun q => Value.ref q.1)).size := hp.size_eq
      have ln : (arrOf st).toList.length = L2'.length := by rw [e2, List.length_map]
      rw [List.pairwise_iff_getElem]
      intro i j hi hj hij
      have key : ∀ (m : Nat) (hm : m < L2'.length), KK (PyProof.Rows.G.tupKindC H1 sh) (arrOf st) m = kR (L2'[m]).2 := fun m hm => by
        have hg : (arrOf st)[m]? = some (Value.ref L2'[m].1, Value.ref L2'[m].1) := by
          rw [← Array.getElem?_toList, e2, List.getElem?_map, List.getElem?_eq_getElem hm]
          rfl
        unfold KK
        rw [hg]
        show (PyProof.Rows.G.tupKeyC H1 sh (Value.ref L2'[m].1)).getD [] = _
        rw [kC _ (l2.mem_iff.mp (List.getElem_mem hm)), Option.getD_some]
      have sz3 : (arrOf st).size = L2'.length := by rw [← Array.length_toList]; exact ln
      have := hs i j (by omega) (by rw [← hsz, sz3]; exact hj)
      rw [key i hi, key j hj] at this
      exact this
end
end DL

namespace DL
open PySem PySem.Spec PyProof PyProof.Rows L2
open Evl (Ex)
open RZ
/-! ### sorted(set(x)), x a row of rows of texts or of rows of ints -/
/-- a kind of members: ints, or texts -/
structure KD (κ : Type) [DecidableEq κ] where
  v : κ → V
  d : κ → PyData
  e : κ → Int ⊕ List Nat
  sh : Bool
  atm : ∀ (P : Program) (w : World), Atm P w κ
  of : PyData → Option κ
  of_is : ∀ {x k}, of x = some k → x = d k
  dt : ∀ (K : PySem.W.Frag) (Hd : Hp) (k : κ), Dt K Hd (v k) (d k)
  dt' : ∀ {K : PySem.W.Frag} {Hd : Hp} {x : V} {k : κ}, Dt K Hd x (d k) → x = v k
  rel : ∀ (P : Program) (w : World) {k : κ} {u : Value}, RelV (v k) u → ∃ t, u = (atm P w).val k t
  keys : ∀ (i : Nat) (k : κ) (r : List PyData), keysD (fun _ => sh) i (d k :: r) = (keysD (fun _ => sh) (i + 1) r).map (e k :: ·)
  items : ∀ (P : Program) (w : World) (i : Nat) (k : κ) (t : Tok) (us : List Value), tupItems (fun _ => sh) i ((atm P w).val k t :: us) = (tupItems (fun _ => sh) (i + 1) us).map (e k :: ·)
  kind : ∀ (P : Program) (w : World) (k : κ) (t : Tok), (sh = false → ∃ i u, (atm P w).val k t = Value.int i u) ∧ (sh = true → ∃ i u, (atm P w).val k t = Value.str i u)
def kdS : KD Str where
  v := .str
  d := .str
  e := fun s => .inr s.cps.toList
  sh := true
  atm := atmS
  of := fun x => match x with | .str s => some s | _ => none
  of_is := fun {x k} h => by cases x <;> cases h; rfl
  dt := fun _ _ k => .str k
  dt' := fun h => by cases h; rfl
  rel := fun _ _ {k u} h => h
  keys := fun i k r => rfl
  items := fun P w i k t us => rfl
  kind := fun P w k t => ⟨(fun h => nomatch h), fun _ => ⟨_, _, rfl⟩⟩
def kdI : KD Int where
  v := .int
  d := .int
  e := .inl
  sh := false
  atm := atmI
  of := fun x => match x with | .int s => some s | _ => none
  of_is := fun {x k} h => by cases x <;> cases h; rfl
  dt := fun _ _ k => .int k
  dt' := fun h => by cases h; rfl
  rel := fun _ _ {k u} h => h
  keys := fun i k r => rfl
  items := fun P w i k t us => rfl
  kind := fun P w k t => ⟨fun _ => ⟨_, _, rfl⟩, fun h => nomatch h⟩
section
variable {κ : Type} [DecidableEq κ] (D : KD κ)
def rowD (r : List κ) : PyData := .tuple (r.map D.d)
def rowE (r : List κ) : RKey := r.map D.e
theorem items_row (P : Program) (w : World) : ∀ (i : Nat) (r : List κ) (us : List Value), RowA (D.atm P w) r us → tupItems (fun _ => D.sh) i us = some (rowE D r)
  | i, _, _, .nil => rfl
  | i, k :: r, _, .cons h => by
    rw [D.items, items_row P w (i + 1) r _ h]; rfl
theorem keys_row : ∀ (i : Nat) (r : List κ), keysD (fun _ => D.sh) i (r.map D.d) = some (rowE D r)
  | i, [] => rfl
  | i, k :: r => by
    rw [List.map_cons, D.keys, keys_row (i + 1) r]; rfl
theorem key_rowD {r : List κ} (h : r ≠ []) : rowKey (fun _ => D.sh) (rowD D r) = some (rowE D r) := by
  cases r with
  | nil => exact absurd rfl h
  | cons k r => exact keys_row D 0 (k :: r)
/-- rows read off data -/
def rowsK : List PyData → Option (List (List κ))
  | [] => some []
  | .tuple (x :: xs) :: r => (mapO D.of (x :: xs)).bind fun k => (rowsK r).bind fun ks => some (k :: ks)
  | _ => none
theorem mapO_of : ∀ {xs : List PyData} {k : List κ}, mapO D.of xs = some k → xs = k.map D.d
  | [], _, h => by cases h; rfl
  | x :: xs, k, h => by
    obtain ⟨y, h1, h⟩ := bnd h
    obtain ⟨ys, h2, h⟩ := bnd h
    cases h
    rw [D.of_is h1, mapO_of h2]; rfl
theorem dta_map {K : PySem.W.Frag} {Hd : Hp} : ∀ {vs : List V} {k : List κ}, DtA K Hd vs (k.map D.d) → vs = k.map D.v
  | _, [], h => by cases h; rfl
  | _, x :: k, h => by
    cases h with
    | cons h1 h2 => rw [D.dt' h1, dta_map h2]; rfl
theorem map_dta (K : PySem.W.Frag) (Hd : Hp) : ∀ k : List κ, DtA K Hd (k.map D.v) (k.map D.d)
  | [] => .nil
  | x :: k => .cons (D.dt K Hd x) (map_dta K Hd k)
theorem rows_is {K : PySem.W.Frag} {Hd : Hp} : ∀ {vs : List V} {ds : List PyData} {rs : List (List κ)}, DtA K Hd vs ds → rowsK D ds = some rs →
    ∃ ks : List (Addr × List κ), vs = ks.map (fun p => V.ref p.1) ∧ ks.map (·.2) = rs ∧ ∀ p ∈ ks, Tp Hd p.1 (p.2.map D.v) ∧ p.2 ≠ []
  | _, [], _, h, e => by
    cases h; cases e
    exact ⟨[], rfl, rfl, fun p h => nomatch h⟩
  | _, d :: ds, rs, h, e => by
    cases h with
    | @cons v vs _ _ h1 h2 =>
      cases d with
      | tuple xs =>
        cases xs with
        | nil => cases e
        | cons x xs =>
          have e : ((mapO D.of (x :: xs)).bind fun k => (rowsK D ds).bind fun ks => some (k :: ks)) = some rs := e
          obtain ⟨k, e1, e⟩ := bnd e
          obtain ⟨ks, e2, e⟩ := bnd e
          cases e
          obtain ⟨ps, rfl, rfl, h4⟩ := rows_is h2 e2
          cases h1 with
          | @tup t items _ g1 g2 =>
            have ex := mapO_of D e1
            rw [ex] at g2
            have ei := dta_map D g2
            have kn : k ≠ [] := fun z => by rw [z] at ex; cases ex
            refine ⟨(t, k) :: ps, rfl, rfl, fun p hp => ?_⟩
            rcases List.mem_cons.mp hp with rfl | hp
            · exact ⟨by rw [← ei]; exact g1, kn⟩
            · exact h4 p hp
      | _ => cases e
/-- what sorted(set(rows)) wants, and what it gives -/
def RowsQ (K : PySem.W.Frag) (H1 : Hp) (l : Addr) (Q : VK) : Prop := ∃ ks : List (Addr × List κ), (SqL K H1 l (ks.map fun p => V.ref p.1) ∨ SqT K H1 l (ks.map fun p => V.ref p.1)) ∧ (∀ p ∈ ks, Tp H1 p.1 (p.2.map D.v) ∧ p.2 ≠ []) ∧ (ddK (ks.map (·.2))).length < 64 ∧
  ∀ (L : List (Addr × List κ)) (p : Addr), (∀ q ∈ L, q ∈ ks) → (L.map (·.2)).Nodup → (∀ k, k ∈ L.map (·.2) ↔ k ∈ ks.map (·.2)) → L.Pairwise (fun q r => ltR (rowE D r.2) (rowE D q.2) = false) → H1 p = none → Q (.ref p) (upd H1 p (.lst (L.map fun q => V.ref q.1)))
def srtRowsK (ds : List PyData) : Option (List PyData) := (rowsK D ds).bind fun rs => if (ddK rs).length < 64 then some (sortK (keyR fun _ => D.sh) ((ddK rs).map (rowD D))) else none
end
theorem rowA_of {P : Program} {w : World} {κ : Type} [DecidableEq κ] (D : KD κ) : ∀ {k : List κ} {us : List Value}, Vals (k.map D.v) us → RowA (D.atm P w) k us
  | [], _, .nil => .nil
  | k :: ks, _, .cons r rr => by
    obtain ⟨t, rfl⟩ := D.rel P w r
    exact .cons (rowA_of D rr)
theorem refs_got {κ : Type} : ∀ {ks : List (Addr × List κ)} {us : List Value}, Vals (ks.map fun p => V.ref p.1) us → ∀ (i : Nat) (v : Value), us[i]? = some v → ∃ p, ks[i]? = some p ∧ v = Value.ref p.1
  | [], _, .nil, i, v, h => by simp at h
  | n :: ns, _, .cons r rr, 0, v, h => by
    cases h
    exact ⟨n, rfl, r⟩
  | n :: ns, _, .cons r rr, i + 1, v, h => by
    obtain ⟨p, a, b⟩ := refs_got rr i v (by simpa using h)
    exact ⟨p, by simpa using a, b⟩
theorem vals_rows {κ : Type} : ∀ (L : List (Addr × List κ)), Vals (L.map fun p => V.ref p.1) (L.map fun p => Value.ref p.1)
  | [] => .nil
  | _ :: L => .cons rfl (vals_rows L)
def tSrtRows (K : PySem.W.Frag) (te : TE) : TE := fun σ H Q => te σ H fun x H1 => ∃ l, x = V.ref l ∧ (RowsQ kdS K H1 l Q ∨ RowsQ kdI K H1 l Q)
section
variable {X : Cx} {κ : Type} [DecidableEq κ]
theorem set_rows {pins : List (Addr × Obj)} {σ : L2.St} {H1 : Hp} {s1 : Shared} {l : Addr} {Q : VK} (D : KD κ) (hc : X.calm = true) (hu : X.A.units + 8 < cLine) (I1 : Inv X pins σ H1 s1) (h : RowsQ D X.K H1 l Q) {F : Value → Sem Value} {R : Value → Shared → Prop} {E : Value → Shared → Prop}
    (fin : ∀ (s2 : Shared) (a : Addr), (∃ g tk, s2 = { s1 with heap := g, toks := tk }) → (∀ {E' : Value → Shared → Prop}, wpAny (model X.prog X.w) X.A (call (.builtin "sorted") [.ref a]) (EP X pins σ Q) E' s2) → R (.ref a) s2) :
    wpAny (model X.prog X.w) X.A (call (.type "set") [.ref l]) R E s1 := by
  obtain ⟨ks, hs, hk, hb, q⟩ := h
  obtain ⟨b, its, rv, hq⟩ := seq_is I1 hs
  have hl : its.length = ks.length := by rw [← rv.length, List.length_map]
  have rows : ∀ p ∈ ks, IsRow (D.atm X.prog X.w) s1.heap p.2 p.1 := fun p hp => by
    obtain ⟨_, ht, _⟩ := (hk p hp).1
    obtain ⟨_, _, us, r, o, ho, hc2, n, hd⟩ := I1.hok _ _ ht
    exact ⟨o, us.toArray, n, ho, hc2, hd, by rw [List.toList_toArray]; exact rowA_of D r⟩
  refine RSet.of (M := D.atm X.prog X.w) (ks := ks) (I1.ok.hd hc) hq (by rw [List.size_toArray, hl]) (fun i v hv => refs_got rv i v (by simpa using hv)) hb rows hu fun g tk L es ep t R1 hL hp k => ?_
  refine fin _ _ ⟨g, tk, rfl⟩ ?_
  intro E'
  have I2 : Inv X pins σ H1 { s1 with heap := g, toks := tk } := I1.kept (t' := tk) k
  refine sorted_rows (s := { s1 with heap := g, toks := tk }) (sh := fun _ => D.sh) (kR := rowE D) R1 (I1.ok.hd hc) (fun p hp2 => ⟨(hk p (hp p hp2)).2, fun us hr => items_row D _ _ 0 _ us hr⟩) (D.kind X.prog X.w) fun s2 p out c L2 k2 g2 o2 hps ho e1 e2 e3 => ?_
  have e2' := e2
  refine laid_srt I2 k2 g2 o2 hps ho (xs := L2.map fun q => V.ref q.1) (by rw [e1]; exact vals_rows L2) ?_ fun p hn => ?_
  · have h5 : sizeLine = 16777216 := by decide
    have := R1.few
    rw [List.length_map, e2.length_eq]
    omega
  · exact q L2 p (fun r hr => hp r (e2.mem_iff.mp hr)) ((e2.map _).nodup_iff.mpr R1.nd) (fun k => ((e2.map (·.2)).mem_iff (a := k)).trans (hL k)) e3 hn
end
section
variable {X : Cx}
theorem pe_srtRows {a : Expr} {ta : TE} {p p2 q pos : Pos} (hg : Gl X "sorted") (hm : X.mg "sorted" = none) (hg2 : Gl X "set") (hm2 : X.mg "set" = none) (hu : X.A.units + 65 < cLine) (ha : PE X a ta) (hc : X.calm = true := by rfl)
    (na : starEach [a] X.env = (false, eval a X.env) :: starEach [] X.env := by rfl) : PE X (.Call (.Name "sorted" p) [.Call (.Name "set" p2) [a] [] q] [] pos) (tSrtRows X.K ta) := by
  refine ⟨fun pins s σ H Q I h => ?_⟩
  refine Call_ (ld_blt I hg hm boot_sorted ?_)
  refine PyProof.Rows.callWith_builtin1 (PyProof.Rows.args_cons ?_ rfl) rfl rfl
  refine Call_ (ld_blt I hg2 hm2 PyProof.Rows.boot_set ?_)
  refine PyProof.Rows.callWith_type1 (PyProof.Rows.args_cons (thn (ha.run pins s σ H _ I h) fun v s1 ⟨x, H1, I1, r1, q1⟩ => PyProof.Rows.args_nil ?_) na) na rfl
  obtain ⟨l, rfl, q1⟩ := q1
  cases r1
  rcases q1 with q1 | q1
  · exact set_rows kdS hc (by omega) I1 q1 (F := pure) fun s2 a _ h => PyProof.Rows.args_nil h
  · exact set_rows kdI hc (by omega) I1 q1 (F := pure) fun s2 a _ h => PyProof.Rows.args_nil h
end
section
variable {K : PySem.W.Frag}
def srtRows (ds : List PyData) : Option (List PyData) := match srtRowsK kdS ds with
  | some r => some r
  | none => srtRowsK kdI ds
theorem rows_out {κ : Type} [DecidableEq κ] (D : KD κ) {ds d : List PyData} (h : srtRowsK D ds = some d) {l : Addr} {vs : List V} {Hd Hd1 H H1 : Hp} {b : Bool} {Q : VK} (x1 : Ext Hd H Hd1 H1) (g1 : SqH b H1 l vs) (d1 : DtA K Hd1 vs ds)
    (q : ∀ (a : Addr) (vs : List V) (Hd' H' : Hp), Ext Hd H Hd' H' → H a = none → Hd' a = none → H' a = some (.lst vs) → DtA K Hd' vs d → Q (.ref a) H') : RowsQ D K H1 l Q := by
  obtain ⟨rs, h1, h⟩ := bnd h
  by_cases c : (ddK rs).length < 64
  · rw [if_pos c] at h
    cases h
    obtain ⟨ks, rfl, e2, e3⟩ := rows_is D d1 h1
    refine ⟨ks, sq_b g1, fun p hp => ⟨(e3 p hp).1.mono x1.i, (e3 p hp).2⟩, by rw [e2]; exact c, fun L p s1 s2 s3 s4 hn => ?_⟩
    have dta : ∀ L : List (Addr × List κ), (∀ q ∈ L, q ∈ ks) → DtA K Hd1 (L.map fun q => V.ref q.1) (L.map fun q => rowD D q.2) := fun L => by
      induction L with
      | nil => exact fun _ => .nil
      | cons r L ih => exact fun h => .cons (.tup (e3 r (h r List.mem_cons_self)).1 (map_dta D K Hd1 r.2)) (ih fun q hq => h q (List.mem_cons_of_mem _ hq))
    have nes : ∀ r ∈ ddK rs, r ≠ [] := fun r hr => by
      have := ddK_mem.mp hr
      rw [← e2] at this
      obtain ⟨p, hp, rfl⟩ := List.mem_map.mp this
      exact (e3 p hp).2
    have perm0 : (L.map (·.2)).Perm (ddK rs) := (List.perm_ext_iff_of_nodup s2 (ddK_nodup rs)).mpr fun k => by
      rw [s3 k, e2, ddK_mem]
    have perm1 : (L.map fun q => rowD D q.2).Perm (sortK (keyR fun _ => D.sh) ((ddK rs).map (rowD D))) := by
      have := perm0.map (rowD D)
      rw [List.map_map] at this
      exact this.trans (sortK_perm _).symm
    have neL : ∀ q ∈ L, q.2 ≠ [] := fun q hq => (e3 q (s1 q hq)).2
    have ky : ∀ q ∈ L, keyR (fun _ => D.sh) (rowD D q.2) = rowE D q.2 := fun q hq => by
      unfold keyR
      rw [key_rowD D (neL q hq)]; rfl
    have eq : (L.map fun q => rowD D q.2) = sortK (keyR fun _ => D.sh) ((ddK rs).map (rowD D)) := by
      refine perm_unique (k := keyR fun _ => D.sh) (fun x hx y hy hk => ?_) perm1 ?_ (sortK_sorted _)
      · obtain ⟨q1, m1, rfl⟩ := List.mem_map.mp hx
        obtain ⟨q2, m2, rfl⟩ := List.mem_map.mp hy
        rw [ky q1 m1, ky q2 m2] at hk
        exact rowKey_inj (key_rowD D (neL q1 m1)) (by rw [hk]; exact key_rowD D (neL q2 m2))
      · rw [List.pairwise_map]
        refine s4.imp_of_mem fun {a b} ha hb h => ?_
        unfold leR
        rw [ky a ha, ky b hb]
        exact h
    rw [← eq] at q
    exact q p _ _ _ (x1.mut (Evl.fresh_back x1.h hn) (Evl.fresh_back x1.i hn)) (Evl.fresh_back x1.h hn) (Evl.fresh_back x1.i hn) upd_same (dta L s1)
  · rw [if_neg c] at h
    cases h
/-- sorted(set(rows)) as a function -/
def sSrtRows (a : SQ K) : SF K := ⟨tSrtRows K a.te, fun Γ => (a.ev Γ).bind fun x => srtRows x.2, fun {Γ d} h => by
  obtain ⟨⟨b, ds⟩, h1, h⟩ := bnd h
  have h : srtRows ds = some d := h
  intro Hd0 H0 σ Hd H e Q q
  refine a.ok h1 _ _ σ Hd H e _ fun l vs Hd1 H1 x1 g1 k1 d1 => ⟨l, rfl, ?_⟩
  unfold srtRows at h
  cases hs : srtRowsK kdS ds with
  | some r =>
    rw [hs] at h
    cases h
    exact .inl (rows_out kdS hs x1 g1 d1 q)
  | none =>
    rw [hs] at h
    exact .inr (rows_out kdI h x1 g1 d1 q)⟩
end
end DL

namespace DL
open PySem PySem.Spec PyProof PyProof.Rows L2
open Evl (Ex)
open RZ
/-! ### the walk over zip(*rows) -/
def rowsQ : List PyData → Option (List (List PyData))
  | [] => some []
  | d :: r => (rowOf d).bind fun x => (rowsQ r).bind fun xs => some (x :: xs)
def minL : List (List PyData) → Nat
  | [] => 0
  | [r] => r.length
  | r :: s :: t => min r.length (minL (s :: t))
def zipR (rows : List (List PyData)) : List PyData := (List.range (minL rows)).map fun i => PyData.tuple (rows.map fun r => r[i]?.getD .none)
theorem minL_le : ∀ {rows : List (List PyData)} {r : List PyData}, r ∈ rows → minL rows ≤ r.length
  | [], _, h => nomatch h
  | [s], r, h => by rw [List.mem_singleton.mp h]; exact Nat.le_refl _
  | s :: t :: u, r, h => by
    rcases List.mem_cons.mp h with rfl | h
    · exact Nat.min_le_left _ _
    · exact Nat.le_trans (Nat.min_le_right _ _) (minL_le h)
theorem minL_is : ∀ {rows : List (List PyData)}, rows ≠ [] → ∃ r ∈ rows, r.length = minL rows
  | [], h => absurd rfl h
  | [s], _ => ⟨s, List.mem_cons_self, rfl⟩
  | s :: t :: u, _ => by
    obtain ⟨r, hr, e⟩ := minL_is (rows := t :: u) (by simp)
    show ∃ r ∈ s :: t :: u, r.length = min s.length (minL (t :: u))
    rcases Nat.le_total s.length (minL (t :: u)) with c | c
    · exact ⟨s, List.mem_cons_self, by rw [Nat.min_eq_left c]⟩
    · exact ⟨r, List.mem_cons_of_mem _ hr, by rw [Nat.min_eq_right c, e]⟩
inductive RwsD (K : PySem.W.Frag) (Hd : Hp) : List (Bool × Addr × List V) → List (List PyData) → Prop
  | nil : RwsD K Hd [] []
  | cons {b : Bool} {l : Addr} {xs : List V} {r : List PyData} {cs : List (Bool × Addr × List V)} {rs : List (List PyData)} : SqH b Hd l xs → DtA K Hd xs r → RwsD K Hd cs rs → RwsD K Hd ((b, l, xs) :: cs) (r :: rs)
section
variable {K : PySem.W.Frag} {Hd : Hp}
theorem rows_dt : ∀ {ds : List PyData} {vs : List V} {rows : List (List PyData)}, DtA K Hd vs ds → rowsQ ds = some rows → ∃ cs : List (Bool × Addr × List V), vs = cs.map (fun c => V.ref c.2.1) ∧ RwsD K Hd cs rows
  | [], _, _, h, e => by
    cases h; cases e
    exact ⟨[], rfl, .nil⟩
  | d :: ds, _, _, h, e => by
    cases h with
    | cons h1 h2 =>
      obtain ⟨x, e1, e⟩ := bnd e
      obtain ⟨xs, e2, e⟩ := bnd e
      cases e
      obtain ⟨cs, rfl, m⟩ := rows_dt h2 e2
      cases h1 with
      | lst k1 k2 => cases e1; exact ⟨(true, _, _) :: cs, rfl, .cons k1 k2 m⟩
      | tup k1 k2 => cases e1; exact ⟨(false, _, _) :: cs, rfl, .cons k1 k2 m⟩
      | _ => cases e1
theorem RwsD.len : ∀ {cs : List (Bool × Addr × List V)} {rs : List (List PyData)}, RwsD K Hd cs rs → cs.length = rs.length
  | _, _, .nil => rfl
  | _, _, .cons _ _ m => by simp [m.len]
theorem RwsD.sq {H : Hp} (e : Ex Hd H) : ∀ {cs : List (Bool × Addr × List V)} {rs : List (List PyData)}, RwsD K Hd cs rs → ∀ c ∈ cs, SqB K H c
  | _, _, .nil, _, h => nomatch h
  | _, _, .cons (b := b) h1 _ m, c, hc => by
    rcases List.mem_cons.mp hc with rfl | hc
    · cases b with
      | true => exact SqL.of (e _ _ h1)
      | false => exact ((Tp.mono e h1).sq (K := K))
    · exact m.sq e c hc
theorem RwsD.lt {i : Nat} : ∀ {cs : List (Bool × Addr × List V)} {rs : List (List PyData)}, RwsD K Hd cs rs → (∀ r ∈ rs, i < r.length) → ∀ c ∈ cs, i < c.2.2.length
  | _, _, .nil, _, _, h => nomatch h
  | _, _, .cons h1 h2 m, hr, c, hc => by
    rcases List.mem_cons.mp hc with rfl | hc
    · show i < List.length _
      rw [h2.length]
      exact hr _ List.mem_cons_self
    · exact m.lt (fun r h => hr r (List.mem_cons_of_mem _ h)) c hc
theorem RwsD.end_ {i : Nat} : ∀ {cs : List (Bool × Addr × List V)} {rs : List (List PyData)}, RwsD K Hd cs rs → (∃ r ∈ rs, r.length ≤ i) → ∃ c ∈ cs, c.2.2.length ≤ i
  | _, _, .nil, h => by obtain ⟨_, z, _⟩ := h; cases z
  | _, _, .cons h1 h2 m, h => by
    obtain ⟨r, hr, h⟩ := h
    rcases List.mem_cons.mp hr with rfl | hr
    · exact ⟨_, List.mem_cons_self, by rw [h2.length]; exact h⟩
    · obtain ⟨c, hc, e⟩ := m.end_ ⟨r, hr, h⟩
      exact ⟨c, List.mem_cons_of_mem _ hc, e⟩
theorem RwsD.col {i : Nat} : ∀ {cs : List (Bool × Addr × List V)} {rs : List (List PyData)}, RwsD K Hd cs rs → (∀ r ∈ rs, i < r.length) → DtA K Hd (cs.map fun c => c.2.2[i]?.getD .non) (rs.map fun r => r[i]?.getD .none)
  | _, _, .nil, _ => .nil
  | _, _, .cons (r := r) h1 h2 m, hr => by
    have hi : i < r.length := hr _ List.mem_cons_self
    obtain ⟨u, g1, g2⟩ := h2.got (List.getElem?_eq_getElem hi)
    refine .cons ?_ (m.col fun r h => hr r (List.mem_cons_of_mem _ h))
    show Dt K Hd (Option.getD _ V.non) (r[i]?.getD .none)
    rw [g1, List.getElem?_eq_getElem hi]
    exact g2
theorem RwsD.mono {H : Hp} (e : Ex Hd H) : ∀ {cs : List (Bool × Addr × List V)} {rs : List (List PyData)}, RwsD K Hd cs rs → RwsD K H cs rs
  | _, _, .nil => .nil
  | _, _, .cons h1 h2 m => .cons (SqH.mono e h1) (h2.mono e) (m.mono e)
def iZs (a : SQ K) : SI K := ⟨iZipS K a.te, fun Γ => (a.ev Γ).bind fun x => (rowsQ x.2).bind fun rows => if 1 ≤ rows.length ∧ rows.length ≤ 20 then some (zipR rows) else none, fun {Γ ds} h => by
  obtain ⟨⟨b, xs⟩, h1, h⟩ := bnd h
  obtain ⟨rows, h2, h⟩ := bnd h
  split at h
  · rename_i hc
    cases h
    intro Hd0 H0 σ Hd H e R q
    refine a.ok h1 _ _ σ Hd H e _ fun l vs Hd1 H1 x1 g1 k1 d1 => ?_
    obtain ⟨cs, rfl, m⟩ := rows_dt d1 h2
    have hl := m.len
    have hne : rows ≠ [] := fun z => by rw [z] at hc; exact absurd hc.1 (by decide)
    refine ⟨l, cs, rfl, ?_, fun z => by rw [z] at hl; exact hne (List.eq_nil_of_length_eq_zero hl.symm), by omega, m.sq x1.i, q _ Hd1 H1 x1 fun Hd' H' e1 e2 => ?_⟩
    · cases b with
      | true => exact .inr (SqL.of g1)
      | false => exact .inl (Tp.sq g1)
    · have m' := m.mono e1
      refine ⟨⟨m'.sq e2, ?_⟩, fun i d hd => ?_⟩
      · obtain ⟨r, hr, e⟩ := minL_is hne
        refine m'.end_ ⟨r, hr, ?_⟩
        rw [zipR, List.length_map, List.length_range]
        omega
      · unfold zipR at hd
        rw [List.getElem?_map] at hd
        obtain ⟨j, hj, rfl⟩ := Option.map_eq_some_iff.mp hd
        have hlt : i < minL rows := by
          have := (List.getElem?_eq_some_iff.mp hj).1
          simpa using this
        rw [List.getElem?_range hlt] at hj
        cases hj
        have hr : ∀ r ∈ rows, i < r.length := fun r hr => Nat.lt_of_lt_of_le hlt (minL_le hr)
        refine ⟨fun c hc => ⟨m'.sq e2 c hc, m'.lt hr c hc⟩, fun x H'' ⟨T, ex, nT, ob, hob, eH⟩ => ?_⟩
        subst ex eH
        have nT' := Evl.fresh_back e2 nT
        exact ⟨upd Hd' T _, (Ext.refl e2).new nT, .tup (Tp.new hob) ((m'.col hr).mono (Ex.new nT'))⟩
  · cases h⟩
theorem ei_zipn {ta : TA} {Γ : List G} {xs : List PyData} {rows : List (List PyData)} (h : EA K ta Γ xs) (h2 : rowsQ xs = some rows) (hc : 1 ≤ rows.length ∧ rows.length ≤ 20) : EI K (iZipN K ta) Γ (zipR rows) := by
  intro Hd0 H0 σ Hd H e R q
  refine h _ _ σ Hd H e _ fun vs Hd1 H1 x1 d1 => ?_
  obtain ⟨cs, rfl, m⟩ := rows_dt d1 h2
  have hl := m.len
  have hne : rows ≠ [] := fun z => by rw [z] at hc; exact absurd hc.1 (by decide)
  refine ⟨cs, rfl, fun z => by rw [z] at hl; exact hne (List.eq_nil_of_length_eq_zero hl.symm), by omega, m.sq x1.i, q _ Hd1 H1 x1 fun Hd' H' e1 e2 => ?_⟩
  have m' := m.mono e1
  refine ⟨⟨m'.sq e2, ?_⟩, fun i d hd => ?_⟩
  · obtain ⟨r, hr, e⟩ := minL_is hne
    refine m'.end_ ⟨r, hr, ?_⟩
    rw [zipR, List.length_map, List.length_range]
    omega
  · unfold zipR at hd
    rw [List.getElem?_map] at hd
    obtain ⟨j, hj, rfl⟩ := Option.map_eq_some_iff.mp hd
    have hlt : i < minL rows := by
      have := (List.getElem?_eq_some_iff.mp hj).1
      simpa using this
    rw [List.getElem?_range hlt] at hj
    cases hj
    have hr : ∀ r ∈ rows, i < r.length := fun r hr => Nat.lt_of_lt_of_le hlt (minL_le hr)
    refine ⟨fun c hc => ⟨m'.sq e2 c hc, m'.lt hr c hc⟩, fun x H'' ⟨T, ex, nT, ob, hob, eH⟩ => ?_⟩
    subst ex eH
    have nT' := Evl.fresh_back e2 nT
    exact ⟨upd Hd' T _, (Ext.refl e2).new nT, .tup (Tp.new hob) ((m'.col hr).mono (Ex.new nT'))⟩
theorem zipR_two (xs ys : List PyData) : zipR [xs, ys] = zipD xs ys := by
  have hm : minL [xs, ys] = min xs.length ys.length := rfl
  refine List.ext_getElem? fun i => ?_
  unfold zipR zipD
  rw [List.getElem?_map, List.getElem?_map]
  by_cases hi : i < min xs.length ys.length
  · have h1 : i < xs.length := by omega
    have h2 : i < ys.length := by omega
    rw [List.getElem?_range (by rw [hm]; exact hi), show (xs.zip ys)[i]? = some (xs[i], ys[i]) from List.getElem?_zip_eq_some.mpr ⟨List.getElem?_eq_getElem h1, List.getElem?_eq_getElem h2⟩]
    show some (PyData.tuple [xs[i]?.getD .none, ys[i]?.getD .none]) = some (PyData.tuple [xs[i], ys[i]])
    rw [List.getElem?_eq_getElem h1, List.getElem?_eq_getElem h2]
    rfl
  · rw [List.getElem?_eq_none (by rw [List.length_range, hm]; omega), List.getElem?_eq_none (by rw [List.length_zip]; omega)]
    rfl
theorem ei_zip2 {ta : TA} {Γ : List G} {x y : PyData} {xs ys : List PyData} (h : EA K ta Γ [x, y]) (hx : rowOf x = some xs) (hy : rowOf y = some ys) : EI K (iZipN K ta) Γ (zipD xs ys) := by
  rw [← zipR_two]
  refine ei_zipn h (rows := [xs, ys]) ?_ ⟨by show 1 ≤ 2; decide, by show 2 ≤ 20; decide⟩
  show (rowOf x).bind _ = _
  rw [hx]
  show ((rowOf y).bind _).bind _ = _
  rw [hy]
  rfl
/-- zip(a, b, ..), lists or tuples -/
def iZn (a : SA K) : SI K := ⟨iZipN K a.ta, fun Γ => (a.ev Γ).bind fun x => (rowsQ x).bind fun rows => if 1 ≤ rows.length ∧ rows.length ≤ 20 then some (zipR rows) else none, fun {Γ ds} h => by
  obtain ⟨xs, h1, h⟩ := bnd h
  obtain ⟨rows, h2, h⟩ := bnd h
  split at h
  · rename_i hc
    cases h
    exact ei_zipn (a.ok h1) h2 hc
  · cases h⟩
end
end DL

namespace DL
open PySem PySem.Spec PyProof PyProof.Rows L2
open Evl (Ex)
open RZ
/-! ### defs that draw, as what must hold of whatever is drawn -/
abbrev Wd := Nat → (PyData → Nat → Prop) → Prop
structure YX (K : PySem.W.Frag) where
  te : TE
  wp : Addr → List G → Nat → (PyData → Nat → Prop) → Prop
  ok : ∀ {p : Addr} {Γ : List G} {c : Nat} {R : PyData → Nat → Prop}, wp p Γ c R → ∀ Hd0 H0 σ Hd H, EnB K p Hd0 H0 Γ c σ Hd H → ∀ Q : VK, (∀ v r c' Hd' H', R r c' → Ext Hd (hid p H) Hd' H' → EnB K p Hd0 H0 Γ c' σ Hd' H' → Dt K Hd' v r → Q v H') → te σ H Q
structure YA (K : PySem.W.Frag) where
  ta : TA
  wp : Addr → List G → Nat → (List PyData → Nat → Prop) → Prop
  ok : ∀ {p : Addr} {Γ : List G} {c : Nat} {R : List PyData → Nat → Prop}, wp p Γ c R → ∀ Hd0 H0 σ Hd H, EnB K p Hd0 H0 Γ c σ Hd H → ∀ Q : List V → Hp → Prop, (∀ vs rs c' Hd' H', R rs c' → Ext Hd (hid p H) Hd' H' → EnB K p Hd0 H0 Γ c' σ Hd' H' → DtA K Hd' vs rs → Q vs H') → ta σ H Q
structure YT (K : PySem.W.Frag) where
  tt : TT
  wp : Addr → List G → Nat → (Bool → Nat → Prop) → Prop
  ok : ∀ {p : Addr} {Γ : List G} {c : Nat} {R : Bool → Nat → Prop}, wp p Γ c R → ∀ Hd0 H0 σ Hd H, EnB K p Hd0 H0 Γ c σ Hd H → ∀ Q : Bool → Hp → Prop, (∀ b c' Hd' H', R b c' → Ext Hd (hid p H) Hd' H' → EnB K p Hd0 H0 Γ c' σ Hd' H' → Q b H') → tt σ H Q
structure YI (K : PySem.W.Frag) where
  wi : TI
  wp : Addr → List G → Nat → (List PyData → Nat → Prop) → Prop
  ok : ∀ {p : Addr} {Γ : List G} {c : Nat} {R : List PyData → Nat → Prop}, wp p Γ c R → ∀ Hd0 H0 σ Hd H, EnB K p Hd0 H0 Γ c σ Hd H → ∀ S : It → Hp → Prop, (∀ J rs c' Hd' H', R rs c' → Ext Hd (hid p H) Hd' H' → EnB K p Hd0 H0 Γ c' σ Hd' H' → ItOk K J Hd' rs → S J H') → wi σ H S
structure YF (K : PySem.W.Frag) where
  te : TE
  wp : Addr → List G → Nat → (List PyData → Nat → Prop) → Prop
  ok : ∀ {p : Addr} {Γ : List G} {c : Nat} {R : List PyData → Nat → Prop}, wp p Γ c R → ∀ Hd0 H0 σ Hd H, EnB K p Hd0 H0 Γ c σ Hd H → ∀ Q : VK, (∀ a vs rs c' Hd' H', R rs c' → Ext Hd (hid p H) Hd' H' → EnB K p Hd0 H0 Γ c' σ Hd' H' → H a = none → Hd' a = none → H' a = some (.lst vs) → DtA K Hd' vs rs → Q (.ref a) H') → te σ H Q
structure YS (K : PySem.W.Frag) where
  ts : TS
  wp : Addr → List G → Nat → (Out → Nat → Prop) → Prop
  ok : ∀ {p : Addr} {Γ : List G} {c : Nat} {R : Out → Nat → Prop}, wp p Γ c R → ∀ Hd0 H0 σ Hd H, EnB K p Hd0 H0 Γ c σ Hd H → ∀ D : Ends, (∀ Δ c' σ' Hd' H', R (.nx Δ) c' → EnB K p Hd0 H0 Δ c' σ' Hd' H' → Ex Hd Hd' → D.nx σ' H') → (∀ r c' v Hd' H', R (.rt r) c' → Ext Hd0 H0 Hd' H' → Hd' p = none → (∃ o, H' p = some o ∧ BoxO c' o) → Dt K Hd' v r → D.rt v H') → ts D σ H
section
variable {K : PySem.W.Frag} {p : Addr} {Hd0 H0 Hd H Hd' H' : Hp} {Γ Δ : List G} {c n m : Nat} {σ σ' : L2.St}
/-! what draws, seen as a thing that was there before -/
theorem EnB.up (e : EnB K p Hd0 H0 Γ c σ Hd H) : ∃ o, En K Hd0 (upd H0 p o) Γ σ Hd H ∧ BoxO c o := by
  obtain ⟨o, ho, hb⟩ := e.b
  have d0 : Hd0 p = none := by
    cases z : Hd0 p with
    | none => rfl
    | some u => have := e.en.x.d _ _ z; rw [e.d] at this; cases this
  refine ⟨o, ⟨⟨e.en.x.d, fun a u ha => ?_, e.en.x.i, fun a u h1 h2 => ?_⟩, e.en.l, fun i g hg => ?_, e.en.o⟩, hb⟩
  · by_cases z : a = p
    · subst z; rw [upd_same] at ha; cases ha; exact ho
    · rw [upd_ne z] at ha; exact e.en.x.h _ _ ha
  · by_cases z : a = p
    · subst z; exact e.d
    · rw [upd_ne z] at h2; exact e.en.x.f a u h1 h2
  · have q := e.en.g i g hg
    cases g with
    | any => trivial
    | val v => exact q
    | dat d => exact q
    | own ds =>
      obtain ⟨a, vs, h1, h0, h2, h3, h4⟩ := q
      have np : a ≠ p := fun z => by subst z; exact e.o i ds hg h1
      exact ⟨a, vs, h1, by rw [upd_ne np]; exact h0, h2, h3, h4⟩
    | lck kvs => exact q
    | ownD b kvs =>
      obtain ⟨a, u, h1, h0, h2, h3, h4⟩ := q
      have np : a ≠ p := fun z => by
        subst z
        rw [h3] at ho
        cases ho
        obtain ⟨_, _, _, eo, _⟩ := hb
        exact h4.nl eo
      exact ⟨a, u, h1, by rw [upd_ne np]; exact h0, h2, h3, h4⟩
theorem EnB.down {o : HO} (z0 : H0 p = none) (d0 : Hd0 p = none) (hb : BoxO c o) (e : En K Hd0 (upd H0 p o) Δ σ' Hd' H') : EnB K p Hd0 H0 Δ c σ' Hd' H' := by
  have hp : H' p = some o := e.x.h _ _ upd_same
  have ne : ∀ {a : Addr}, (upd H0 p o) a = none → a ≠ p ∧ H0 a = none := fun {a} h => by
    by_cases z : a = p
    · subst z; rw [upd_same] at h; cases h
    · rw [upd_ne z] at h; exact ⟨z, h⟩
  refine ⟨⟨⟨e.x.d, fun a u ha => e.x.h _ _ ?_, e.x.i, fun a u h1 h2 => e.x.f a u h1 ?_⟩, e.l, fun i g hg => ?_, e.o⟩, e.x.f p o d0 upd_same, z0, ⟨o, hp, hb⟩, fun i ds hi hs => ?_⟩
  · rw [upd_ne (fun z => by subst z; rw [z0] at ha; cases ha)]; exact ha
  · rw [upd_ne (fun z => by subst z; rw [z0] at h2; cases h2)]; exact h2
  · have q := e.g i g hg
    cases g with
    | any => trivial
    | val v => exact q
    | dat d => exact q
    | own ds =>
      obtain ⟨a, vs, h1, h0, h2, h3, h4⟩ := q
      exact ⟨a, vs, h1, (ne h0).2, h2, h3, h4⟩
    | lck kvs => exact q
    | ownD b kvs =>
      obtain ⟨a, u, h1, h0, h2, h3, h4⟩ := q
      exact ⟨a, u, h1, (ne h0).2, h2, h3, h4⟩
  · obtain ⟨a, vs, h1, h0, _⟩ := e.own hi
    rw [hs] at h1
    cases h1
    exact (ne h0).1 rfl
theorem EnB.d0 (e : EnB K p Hd0 H0 Γ c σ Hd H) : Hd0 p = none := by
  cases z : Hd0 p with
  | none => rfl
  | some u => have := e.en.x.d _ _ z; rw [e.d] at this; cases this
theorem EnB.gd {g : TG} {d : PyData} {vs : List Nat} {v : V} (e : EnB K p Hd0 H0 Γ c σ Hd H) (h : GD K g Γ d vs Δ) (dv : Dt K Hd v d) {Q : L2.St → Hp → Prop} (q : ∀ σ', EnB K p Hd0 H0 Δ c σ' Hd H → L2.wipe σ' vs = L2.wipe σ vs → Q σ' H) : g v σ H Q := by
  obtain ⟨o, en, hb⟩ := e.up
  exact h _ _ σ Hd H v en dv Q fun σ' en' w => q σ' (EnB.down e.z e.d0 hb en') w
end
section
variable {K : PySem.W.Frag}
/-! ### what draws nothing -/
def yP (a : SX K) : YX K := ⟨a.te, fun _ Γ c R => ∃ d, a.ev Γ = some d ∧ R d c, fun {p Γ c R} h Hd0 H0 σ Hd H e Q q => by
  obtain ⟨d, h1, h2⟩ := h
  exact a.ok h1 _ _ σ Hd H e.en Q fun v Hd' H' x dv => q v d c Hd' H' h2 x.hidE (e.ext x) dv⟩
def yPA (a : SA K) : YA K := ⟨a.ta, fun _ Γ c R => ∃ d, a.ev Γ = some d ∧ R d c, fun {p Γ c R} h Hd0 H0 σ Hd H e Q q => by
  obtain ⟨d, h1, h2⟩ := h
  exact a.ok h1 _ _ σ Hd H e.en Q fun v Hd' H' x dv => q v d c Hd' H' h2 x.hidE (e.ext x) dv⟩
def yPT (a : ST K) : YT K := ⟨a.tt, fun _ Γ c R => ∃ d, a.ev Γ = some d ∧ R d c, fun {p Γ c R} h Hd0 H0 σ Hd H e Q q => by
  obtain ⟨d, h1, h2⟩ := h
  exact a.ok h1 _ _ σ Hd H e.en Q fun Hd' H' x => q d c Hd' H' h2 x.hidE (e.ext x)⟩
def yPI (a : SI K) : YI K := ⟨a.wi, fun _ Γ c R => ∃ d, a.ev Γ = some d ∧ R d c, fun {p Γ c R} h Hd0 H0 σ Hd H e S q => by
  obtain ⟨d, h1, h2⟩ := h
  exact a.ok h1 _ _ σ Hd H e.en S fun J Hd' H' x ok => q J d c Hd' H' h2 x.hidE (e.ext x) ok⟩
def yPF (a : SF K) : YF K := ⟨a.te, fun _ Γ c R => ∃ d, a.ev Γ = some d ∧ R d c, fun {p Γ c R} h Hd0 H0 σ Hd H e Q q => by
  obtain ⟨d, h1, h2⟩ := h
  exact a.ok h1 _ _ σ Hd H e.en Q fun v vs Hd' H' x n1 n2 g1 dv => q v vs d c Hd' H' h2 x.hidE (e.ext x) n1 n2 g1 dv⟩
def yPS (s : SS K) : YS K := ⟨s.ts, fun _ Γ c R => ∃ o, s.ev Γ = some o ∧ R o c, fun {p Γ c R} h Hd0 H0 σ Hd H e D q1 q2 => by
  obtain ⟨o, h1, h2⟩ := h
  obtain ⟨b, en, hb⟩ := e.up
  refine s.ok h1 _ _ σ Hd H en D ?_
  cases o with
  | nx Δ => exact fun σ' Hd' H' en' x => q1 Δ c σ' Hd' H' h2 (EnB.down e.z e.d0 hb en') x
  | rt d => exact fun v Hd' H' x dv => q2 d c v Hd' H' h2 ⟨x.d, fun a u ha => x.h _ _ (by rw [upd_ne (fun z => by subst z; rw [e.z] at ha; cases ha)]; exact ha), x.i, fun a u g1 g2 => x.f a u g1 (by rw [upd_ne (fun z => by subst z; rw [e.z] at g2; cases g2)]; exact g2)⟩
                    (x.f p b e.d0 upd_same) ⟨b, x.h _ _ upd_same, hb⟩ dv⟩
/-! ### expressions -/
def yA0 : YA K := ⟨tNil, fun _ _ c R => R [] c, fun {p Γ c R} h Hd0 H0 σ Hd H e Q q => q [] [] c Hd H h (Ext.refl e.en.x.i).hidE e .nil⟩
def yA1 (x : YX K) (r : YA K) : YA K := ⟨tCons x.te r.ta, fun p Γ c R => x.wp p Γ c fun d c1 => r.wp p Γ c1 fun ds c2 => R (d :: ds) c2, fun {p Γ c R} h Hd0 H0 σ Hd H e Q q =>
  x.ok h _ _ σ Hd H e _ fun v d c1 Hd1 H1 h1 x1 e1 d1 => r.ok h1 _ _ σ Hd1 H1 e1 _ fun vs ds c2 Hd2 H2 h2 x2 e2 d2 => q _ _ c2 Hd2 H2 h2 (x1.hid2 x2) e2 (.cons (d1.mono x2.d) d2)⟩
/-- a draw -/
def yTake (i : Nat) (a : YX K) : YX K := ⟨tCall spTakeW [] E0 (tCons (tVar i) (tCons a.te tNil)), fun p Γ c R => Γ[i]? = some (.val (.ref p)) ∧ a.wp p Γ c fun d c1 => ∃ top : Int, d = .int top ∧ 1 ≤ top ∧ top < 2 ^ 300 ∧ c1 < 2 ^ 60 ∧ ∀ k : Int, 0 ≤ k → k < top → R (.int k) (c1 + 1), fun {p Γ c R} h Hd0 H0 σ Hd H e Q q =>
  ⟨_, e.en.g i _ h.1, a.ok h.2 _ _ σ Hd H e _ fun v d c1 Hd1 H1 hd x1 e1 d1 => by
    obtain ⟨top, rfl, t1, t2, t3, hR⟩ := hd
    cases d1
    obtain ⟨o, ho, hb⟩ := e1.b
    refine ⟨p, top, c1, o, rfl, t1, t2, ho, hb, t3, fun r o2 r0 r1 hb2 => ?_⟩
    have x2 := ext_hid (o := o2) e1.en.x.i e1.d
    exact q _ _ _ Hd1 _ (hR r r0 r1) (x1.hid2 x2) (e1.draw x2 e1.d ⟨o2, upd_same, hb2⟩) (.int r)⟩⟩
/-- a call of a def that draws, by its domain -/
def yCallB {E : XK} (ar m : Nat) (pre : List PyData → Prop) (dom : List PyData → PyData → Prop) (i : Nat) (a : YA K) : YX K := ⟨tCall (spB K ar m pre dom) [] E (tCons (tVar i) a.ta), fun p Γ c R => Γ[i]? = some (.val (.ref p)) ∧ a.wp p Γ c fun xs c1 => xs.length = ar ∧ pre xs ∧ c1 + m < 2 ^ 60 ∧ ∀ r, dom xs r → R r (c1 + m), fun {p Γ c R} h Hd0 H0 σ Hd H e Q q =>
  ⟨_, e.en.g i _ h.1, a.ok h.2 _ _ σ Hd H e _ fun ws xs c1 Hd1 H1 hx x1 e1 d1 => by
    obtain ⟨hl, hp, hc, hR⟩ := hx
    obtain ⟨o, ho, hb⟩ := e1.b
    refine ⟨by rw [List.append_nil, List.length_cons, d1.length, hl], p, c1, Hd1, xs, o, ws, List.append_nil _, e1.en.x.i, e1.d, ho, hb, hc, d1, hp, fun v r Hd' H' hr x2 k2 b2 dv => ?_⟩
    exact q v r _ Hd' H' (hR r hr) (x1.hid2 x2) (e1.draw x2 k2 b2) dv⟩⟩
/-- the promise of a def that draws, by what must hold of its arguments -/
def spY (K : PySem.W.Frag) (ar : Nat) (fw : List PyData → Nat → (PyData → Nat → Prop) → Prop) : Sp := fun vs H Q _ => vs.length = ar + 1 ∧ ∃ p c Hd ds o ws R, vs = .ref p :: ws ∧ Ex Hd H ∧ Hd p = none ∧ H p = some o ∧ BoxO c o ∧ DtA K Hd ws ds ∧ fw ds c R ∧
  ∀ v r c' Hd' H', R r c' → Ext Hd (hid p H) Hd' H' → Hd' p = none → (∃ o, H' p = some o ∧ BoxO c' o) → Dt K Hd' v r → Q v H'
def yCall {E : XK} (ar : Nat) (fw : List PyData → Nat → (PyData → Nat → Prop) → Prop) (i : Nat) (a : YA K) : YX K := ⟨tCall (spY K ar fw) [] E (tCons (tVar i) a.ta), fun p Γ c R => Γ[i]? = some (.val (.ref p)) ∧ a.wp p Γ c fun xs c1 => xs.length = ar ∧ fw xs c1 R, fun {p Γ c R} h Hd0 H0 σ Hd H e Q q =>
  ⟨_, e.en.g i _ h.1, a.ok h.2 _ _ σ Hd H e _ fun ws xs c1 Hd1 H1 hx x1 e1 d1 => by
    obtain ⟨hl, hf⟩ := hx
    obtain ⟨o, ho, hb⟩ := e1.b
    refine ⟨by rw [List.append_nil, List.length_cons, d1.length, hl], p, c1, Hd1, xs, o, ws, R, List.append_nil _, e1.en.x.i, e1.d, ho, hb, d1, hf, fun v r c' Hd' H' hr x2 k2 b2 dv => ?_⟩
    exact q v r _ Hd' H' hr (x1.hid2 x2) (e1.draw x2 k2 b2) dv⟩⟩
def yOp {r : L2.R2} (F : F2 K r) (a b : YX K) : YX K := ⟨tOp r a.te b.te, fun p Γ c R => a.wp p Γ c fun x c1 => b.wp p Γ c1 fun y c2 => ∃ z, F.f x y = some z ∧ R z c2, fun {p Γ c R} h Hd0 H0 σ Hd H e Q q =>
  a.ok h _ _ σ Hd H e _ fun v x c1 Hd1 H1 h1 x1 e1 d1 => b.ok h1 _ _ σ Hd1 H1 e1 _ fun w y c2 Hd2 H2 h2 x2 e2 d2 => by
    obtain ⟨z, hz, hr⟩ := h2
    exact F.ok hz Hd2 H2 v w x2.i (d1.mono x2.d) d2 Q fun u Hd3 H3 x3 d3 => q u z c2 Hd3 H3 hr ((x1.hid2 x2).hid2 x3.hidE) (e2.ext x3) d3⟩
/-- a call of a built-in -/
def yCB {r : List V → Hp → VK → Prop} (F : FC K r) (a : YA K) : YX K := ⟨tCB r a.ta, fun p Γ c R => a.wp p Γ c fun xs c1 => ∃ z, F.f xs = some z ∧ R z c1, fun {p Γ c R} h Hd0 H0 σ Hd H e Q q =>
  a.ok h _ _ σ Hd H e _ fun vs xs c1 Hd1 H1 h1 x1 e1 d1 => by
    obtain ⟨z, hz, hr⟩ := h1
    exact F.ok hz Hd1 H1 vs x1.i d1 Q fun u Hd2 H2 x2 d2 => q u z c1 Hd2 H2 hr (x1.hid2 x2.hidE) (e1.ext x2) d2⟩
def yTup (a : YA K) : YX K := ⟨tTupX a.ta, fun p Γ c R => a.wp p Γ c fun xs c1 => xs.length ≤ 100000 ∧ R (.tuple xs) c1, fun {p Γ c R} h Hd0 H0 σ Hd H e Q q =>
  a.ok h _ _ σ Hd H e _ fun vs xs c1 Hd1 H1 hx x1 e1 d1 => ⟨fits_of (d1.length ▸ hx.1), fun l o hl ho => by
    have y : Ext Hd1 H1 (upd Hd1 l (.frz o (.tup vs))) (upd H1 l (.frz o (.tup vs))) := (Ext.refl x1.i).new hl
    exact q _ _ c1 _ _ hx.2 (x1.hid2 y.hidE) (e1.ext y) (.tup (Tp.new ho) (d1.mono (Ex.new (Evl.fresh_back x1.i hl))))⟩⟩
theorem EnB.np {Hd0 H0 Hd H : Hp} {Γ : List G} {c : Nat} {σ : L2.St} {p l : Addr} (e : EnB K p Hd0 H0 Γ c σ Hd H) (h : H l = none) : l ≠ p := fun z => by
  subst z
  obtain ⟨o, ho, _⟩ := e.b
  rw [h] at ho
  cases ho
theorem back_hid {p : Addr} {Hd H Hd' H' : Hp} {l : Addr} (x : Ext Hd (hid p H) Hd' H') (h : H' l = none) (np : l ≠ p) : H l = none := by
  have := Evl.fresh_back x.h h
  rw [hid_ne np] at this
  exact this
def yfL (a : YA K) : YF K := ⟨tLst a.ta, fun p Γ c R => a.wp p Γ c fun xs c1 => xs.length ≤ 100000 ∧ R xs c1, fun {p Γ c R} h Hd0 H0 σ Hd H e Q q =>
  a.ok h _ _ σ Hd H e _ fun vs xs c1 Hd1 H1 hx x1 e1 d1 => ⟨fits_of (d1.length ▸ hx.1), fun l hl => by
    have np := e1.np hl
    have n1 := Evl.fresh_back x1.i hl
    have x2 := x1.mut (o := .lst vs) (by rw [hid_ne np]; exact back_hid x1 hl np) n1
    have e2 := e1.ext ((Ext.refl x1.i).mut (o := .lst vs) hl n1)
    exact q _ _ _ c1 _ _ hx.2 x2 e2 (back_hid x1 hl np) n1 upd_same d1⟩⟩
def YF.x (a : YF K) : YX K := ⟨a.te, fun p Γ c R => a.wp p Γ c fun ds c1 => R (.list ds) c1, fun {p Γ c R} h Hd0 H0 σ Hd H e Q q =>
  a.ok h _ _ σ Hd H e _ fun l vs ds c1 Hd1 H1 hR x1 e1 n0 n1 h1 d1 => by
    have np : l ≠ p := e.np n0
    have x2 := x1.take (by rw [hid_ne np]; exact n0) n1 h1
    refine q _ _ c1 _ _ hR x2 (e.draw x2 (by rw [upd_ne np.symm]; exact e1.d) e1.b) (.lst upd_same (d1.mono (Ex.new n1)))⟩
def yIf (t : YT K) (a b : YX K) : YX K := ⟨tIf t.tt a.te b.te, fun p Γ c R => t.wp p Γ c fun x c1 => if x = true then a.wp p Γ c1 R else b.wp p Γ c1 R, fun {p Γ c R} h Hd0 H0 σ Hd H e Q q =>
  t.ok h _ _ σ Hd H e _ fun x c1 Hd1 H1 h1 x1 e1 => by
    cases x with
    | true => exact iteT (a.ok h1 _ _ σ Hd1 H1 e1 _ fun v r c2 Hd2 H2 h2 x2 e2 dv => q v r c2 Hd2 H2 h2 (x1.hid2 x2) e2 dv)
    | false => exact iteF (b.ok h1 _ _ σ Hd1 H1 e1 _ fun v r c2 Hd2 H2 h2 x2 e2 dv => q v r c2 Hd2 H2 h2 (x1.hid2 x2) e2 dv)⟩
/-! ### tests -/
def ytB (a : YX K) : YT K := ⟨tB a.te, fun p Γ c R => a.wp p Γ c fun d c1 => ∃ b, d = .bool b ∧ R b c1, fun {p Γ c R} h Hd0 H0 σ Hd H e Q q =>
  a.ok h _ _ σ Hd H e _ fun v d c1 Hd1 H1 h1 x1 e1 d1 => by
    obtain ⟨b, rfl, hR⟩ := h1
    cases d1
    exact ⟨b, rfl, q b c1 Hd1 H1 hR x1 e1⟩⟩
def ytT (a : YX K) : YT K := ⟨tTest a.te, fun p Γ c R => a.wp p Γ c fun d c1 => ∃ b, d = .bool b ∧ R b c1, fun {p Γ c R} h Hd0 H0 σ Hd H e Q q =>
  a.ok h _ _ σ Hd H e _ fun v d c1 Hd1 H1 h1 x1 e1 d1 => by
    obtain ⟨b, rfl, hR⟩ := h1
    cases d1
    exact ⟨b, rfl, q b c1 Hd1 H1 hR x1 e1⟩⟩
def ytN (t : YT K) : YT K := ⟨tNot t.tt, fun p Γ c R => t.wp p Γ c fun b c1 => R (!b) c1, fun {p Γ c R} h Hd0 H0 σ Hd H e Q q =>
  t.ok h _ _ σ Hd H e _ fun b c1 Hd1 H1 h1 x1 e1 => q (!b) c1 Hd1 H1 h1 x1 e1⟩
def ytAn (a b : YT K) : YT K := ⟨tAnd a.tt b.tt, fun p Γ c R => a.wp p Γ c fun x c1 => if x = true then b.wp p Γ c1 R else R false c1, fun {p Γ c R} h Hd0 H0 σ Hd H e Q q =>
  a.ok h _ _ σ Hd H e _ fun x c1 Hd1 H1 h1 x1 e1 => by
    cases x with
    | true => exact iteT (b.ok h1 _ _ σ Hd1 H1 e1 _ fun v c2 Hd2 H2 h2 x2 e2 => q v c2 Hd2 H2 h2 (x1.hid2 x2) e2)
    | false => exact iteF (q false c1 Hd1 H1 h1 x1 e1)⟩
def ytOr (a b : YT K) : YT K := ⟨tOr a.tt b.tt, fun p Γ c R => a.wp p Γ c fun x c1 => if x = true then R true c1 else b.wp p Γ c1 R, fun {p Γ c R} h Hd0 H0 σ Hd H e Q q =>
  a.ok h _ _ σ Hd H e _ fun x c1 Hd1 H1 h1 x1 e1 => by
    cases x with
    | false => exact iteF (b.ok h1 _ _ σ Hd1 H1 e1 _ fun v c2 Hd2 H2 h2 x2 e2 => q v c2 Hd2 H2 h2 (x1.hid2 x2) e2)
    | true => exact iteT (q true c1 Hd1 H1 h1 x1 e1)⟩
end
end DL

namespace DL
open PySem PySem.Spec PyProof PyProof.Rows L2
open Evl (Ex)
open RZ
section
variable {K : PySem.W.Frag}
theorem en_nil1 {Hd H : Hp} (e : Ex Hd H) : ∀ {vs : List V} {ds : List PyData}, DtA K Hd vs ds → En K Hd H (ds.map G.dat) (vs.map some) Hd H := fun {vs ds} h => by
  refine ⟨.refl e, by simp [h.length], fun i g hg => ?_, fun i j fs es v _ h1 _ _ _ => ?_⟩
  · rw [List.getElem?_map] at hg
    obtain ⟨d, hd, rfl⟩ := Option.map_eq_some_iff.mp hg
    obtain ⟨v, g1, g2⟩ := h.got hd
    exact ⟨v, by rw [List.getElem?_map, g1]; rfl, g2⟩
  · rw [List.getElem?_map] at h1
    obtain ⟨d, hd, z⟩ := Option.map_eq_some_iff.mp h1
    cases z
/-- a built-in's function from a reading of one argument -/
def FC.of {r : List V → Hp → VK → Prop} (e : SX K) (he : e.te = tCB r (tCons (tVar 0) tNil)) : FC K r := ⟨fun xs => match xs with | [x] => e.ev [.dat x] | _ => none, fun {xs z} h => by
  match xs, h with
  | [x], h =>
    intro Hd H vs ex hv Q q
    have := e.ok h _ _ _ _ _ (en_nil1 ex hv) Q q
    rw [he] at this
    cases hv with
    | cons h1 h2 =>
      cases h2
      obtain ⟨v, hv1, hv2⟩ := this
      cases hv1
      exact hv2⟩
def FC.of2 {r : List V → Hp → VK → Prop} (e : SX K) (he : e.te = tCB r (tCons (tVar 0) (tCons (tVar 1) tNil))) : FC K r := ⟨fun xs => match xs with | [x, y] => e.ev [.dat x, .dat y] | _ => none, fun {xs z} h => by
  match xs, h with
  | [x, y], h =>
    intro Hd H vs ex hv Q q
    have := e.ok h _ _ _ _ _ (en_nil1 ex hv) Q q
    rw [he] at this
    cases hv with
    | cons h1 h2 => cases h2 with
      | cons h2 h3 =>
        cases h3
        obtain ⟨v, hv1, w, hv2, hv3⟩ := this
        cases hv1
        cases hv2
        exact hv3⟩
def F2.of {r : L2.R2} (e : SX K) (he : e.te = tOp r (tVar 0) (tVar 1)) : F2 K r := ⟨fun x y => e.ev [.dat x, .dat y], fun {x y z} h => by
  intro Hd H v w ex h1 h2 Q q
  have := e.ok h _ _ _ _ _ (en_nil1 ex (.cons h1 (.cons h2 .nil))) Q q
  rw [he] at this
  obtain ⟨a, g1, b, g2, g3⟩ := this
  cases g1
  cases g2
  exact g3⟩
/-- slices -/
structure FS (K : PySem.W.Frag) (r : V → Option Int → Option Int → Hp → VK → Prop) where
  f : PyData → Option Int → Option Int → Option PyData
  ok : ∀ {x : PyData} {lo hi : Option Int} {z : PyData}, f x lo hi = some z → ∀ Hd H v, Ex Hd H → Dt K Hd v x → ∀ Q : VK, (∀ u Hd' H', Ext Hd H Hd' H' → Dt K Hd' u z → Q u H') → r v lo hi H Q
def oOf (i : Option Int) : SO K := match i with | none => oNo | some i => oInt (sInt i)
def FS.of {r : V → Option Int → Option Int → Hp → VK → Prop} (e : SO K → SO K → SX K) (he : ∀ l h, (e l h).te = tSl r (tVar 0) l.to h.to) : FS K r := ⟨fun x lo hi => (e (oOf lo) (oOf hi)).ev [.dat x], fun {x lo hi z} h => by
  intro Hd H v ex h1 Q q
  have := (e (oOf lo) (oOf hi)).ok h _ _ _ _ _ (en_nil1 ex (.cons h1 .nil)) Q q
  rw [he] at this
  obtain ⟨a, g1, g2⟩ := this
  cases g1
  cases lo with
  | none =>
    cases hi with
    | none => exact g2
    | some i =>
      obtain ⟨_, z, g2⟩ := g2
      cases z
      exact g2
  | some j =>
    obtain ⟨_, z, g2⟩ := g2
    cases z
    cases hi with
    | none => exact g2
    | some i =>
      obtain ⟨_, z, g2⟩ := g2
      cases z
      exact g2⟩
structure YO (K : PySem.W.Frag) where
  to : TO
  wp : Addr → List G → Nat → (Option Int → Nat → Prop) → Prop
  ok : ∀ {p : Addr} {Γ : List G} {c : Nat} {R : Option Int → Nat → Prop}, wp p Γ c R → ∀ Hd0 H0 σ Hd H, EnB K p Hd0 H0 Γ c σ Hd H → ∀ Q : Option Int → Hp → Prop, (∀ r c' Hd' H', R r c' → Ext Hd (hid p H) Hd' H' → EnB K p Hd0 H0 Γ c' σ Hd' H' → Q r H') → to σ H Q
def yNo : YO K := ⟨tNoPart, fun _ _ c R => R none c, fun {p Γ c R} h Hd0 H0 σ Hd H e Q q => q none c Hd H h (Ext.refl e.en.x.i).hidE e⟩
def yPart (a : YX K) : YO K := ⟨tPart a.te, fun p Γ c R => a.wp p Γ c fun d c1 => ∃ i, d = .int i ∧ R (some i) c1, fun {p Γ c R} h Hd0 H0 σ Hd H e Q q =>
  a.ok h _ _ σ Hd H e _ fun v d c1 Hd1 H1 h1 x1 e1 d1 => by
    obtain ⟨i, rfl, hR⟩ := h1
    cases d1
    exact ⟨i, rfl, q _ c1 Hd1 H1 hR x1 e1⟩⟩
def ySl {r : V → Option Int → Option Int → Hp → VK → Prop} (F : FS K r) (a : YX K) (l h : YO K) : YX K := ⟨tSl r a.te l.to h.to, fun p Γ c R => a.wp p Γ c fun x c1 => l.wp p Γ c1 fun lo c2 => h.wp p Γ c2 fun hi c3 => ∃ z, F.f x lo hi = some z ∧ R z c3, fun {p Γ c R} hh Hd0 H0 σ Hd H e Q q =>
  a.ok hh _ _ σ Hd H e _ fun v x c1 Hd1 H1 h1 x1 e1 d1 => l.ok h1 _ _ σ Hd1 H1 e1 _ fun lo c2 Hd2 H2 h2 x2 e2 => h.ok h2 _ _ σ Hd2 H2 e2 _ fun hi c3 Hd3 H3 h3 x3 e3 => by
    obtain ⟨z, hz, hR⟩ := h3
    exact F.ok hz Hd3 H3 v x3.i ((d1.mono x2.d).mono x3.d) Q fun u Hd4 H4 x4 d4 => q u z c3 Hd4 H4 hR (((x1.hid2 x2).hid2 x3).hid2 x4.hidE) (e3.ext x4) d4⟩
/-! ### what is walked -/
def tIA (w : List V → Hp → (It → Hp → Prop) → Prop) (ta : TA) : TI := fun σ H R => ta σ H fun vs H1 => w vs H1 R
structure FI (K : PySem.W.Frag) (w : List V → Hp → (It → Hp → Prop) → Prop) where
  f : List PyData → Option (List PyData)
  ok : ∀ {xs ds : List PyData}, f xs = some ds → ∀ Hd H vs, Ex Hd H → DtA K Hd vs xs → ∀ S : It → Hp → Prop, (∀ J Hd' H', Ext Hd H Hd' H' → ItOk K J Hd' ds → S J H') → w vs H S
def FI.of {w : List V → Hp → (It → Hp → Prop) → Prop} (e : SI K) (he : e.wi = tIA w (tCons (tVar 0) tNil)) : FI K w := ⟨fun xs => match xs with | [x] => e.ev [.dat x] | _ => none, fun {xs ds} h => by
  match xs, h with
  | [x], h =>
    intro Hd H vs ex hv S q
    have := e.ok h _ _ _ _ _ (en_nil1 ex hv) S q
    rw [he] at this
    cases hv with
    | cons h1 h2 =>
      cases h2
      obtain ⟨v, hv1, hv2⟩ := this
      cases hv1
      exact hv2⟩
def FI.of2 {w : List V → Hp → (It → Hp → Prop) → Prop} (e : SI K) (he : e.wi = tIA w (tCons (tVar 0) (tCons (tVar 1) tNil))) : FI K w := ⟨fun xs => match xs with | [x, y] => e.ev [.dat x, .dat y] | _ => none, fun {xs ds} h => by
  match xs, h with
  | [x, y], h =>
    intro Hd H vs ex hv S q
    have := e.ok h _ _ _ _ _ (en_nil1 ex hv) S q
    rw [he] at this
    cases hv with
    | cons h1 h2 => cases h2 with
      | cons h2 h3 =>
        cases h3
        obtain ⟨v, hv1, u, hv2, hv3⟩ := this
        cases hv1
        cases hv2
        exact hv3⟩
def yI {w : List V → Hp → (It → Hp → Prop) → Prop} (F : FI K w) (a : YA K) : YI K := ⟨tIA w a.ta, fun p Γ c R => a.wp p Γ c fun xs c1 => ∃ ds, F.f xs = some ds ∧ R ds c1, fun {p Γ c R} h Hd0 H0 σ Hd H e S q =>
  a.ok h _ _ σ Hd H e _ fun vs xs c1 Hd1 H1 h1 x1 e1 d1 => by
    obtain ⟨ds, hz, hr⟩ := h1
    exact F.ok hz Hd1 H1 vs x1.i d1 S fun J Hd2 H2 x2 ok => q J ds c1 Hd2 H2 hr (x1.hid2 x2.hidE) (e1.ext x2) ok⟩
def tIX (w : V → Hp → (It → Hp → Prop) → Prop) (te : TE) : TI := fun σ H R => te σ H fun v H1 => w v H1 R
structure FJ (K : PySem.W.Frag) (w : V → Hp → (It → Hp → Prop) → Prop) where
  f : PyData → Option (List PyData)
  ok : ∀ {x : PyData} {ds : List PyData}, f x = some ds → ∀ Hd H v, Ex Hd H → Dt K Hd v x → ∀ S : It → Hp → Prop, (∀ J Hd' H', Ext Hd H Hd' H' → ItOk K J Hd' ds → S J H') → w v H S
def FJ.of {w : V → Hp → (It → Hp → Prop) → Prop} (e : SI K) (he : e.wi = tIX w (tVar 0)) : FJ K w := ⟨fun x => e.ev [.dat x], fun {x ds} h => by
  intro Hd H v ex hv S q
  have := e.ok h _ _ _ _ _ (en_nil1 ex (.cons hv .nil)) S q
  rw [he] at this
  obtain ⟨u, hv1, hv2⟩ := this
  cases hv1
  exact hv2⟩
def yJ {w : V → Hp → (It → Hp → Prop) → Prop} (F : FJ K w) (a : YX K) : YI K := ⟨tIX w a.te, fun p Γ c R => a.wp p Γ c fun x c1 => ∃ ds, F.f x = some ds ∧ R ds c1, fun {p Γ c R} h Hd0 H0 σ Hd H e S q =>
  a.ok h _ _ σ Hd H e _ fun v x c1 Hd1 H1 h1 x1 e1 d1 => by
    obtain ⟨ds, hz, hr⟩ := h1
    exact F.ok hz Hd1 H1 v x1.i d1 S fun J Hd2 H2 x2 ok => q J ds c1 Hd2 H2 hr (x1.hid2 x2.hidE) (e1.ext x2) ok⟩
/-! ### comprehensions -/
def itY {vs : List Nat} (g : SG K vs) (t : YT K) (e : YX K) (p : Addr) (Γ : List G) (d : PyData) (c : Nat) (R : Option PyData → Nat → Prop) : Prop := ∃ Δ, g.ev (wipeG Γ vs) d = some Δ ∧ t.wp p Δ c fun b c1 => if b = true then e.wp p Δ c1 fun y c2 => R (some y) c2 else R none c1
def accY (acc : List PyData) : Option PyData → List PyData
  | some y => acc ++ [y]
  | none => acc
def lcY (item : PyData → Nat → (Option PyData → Nat → Prop) → Prop) : List PyData → List PyData → Nat → (List PyData → Nat → Prop) → Prop
  | [], acc, c, R => R acc c
  | d :: r, acc, c, R => item d c fun o c' => lcY item r (accY acc o) c' R
def yLc (it : YI K) (vs : List Nat) (g : SG K vs) (t : YT K) (te : YX K) : YF K := ⟨tLc it.wi g.g t.tt te.te vs, fun p Γ c R => it.wp p Γ c fun ds c1 => ds.length ≤ 100000 ∧ lcY (itY g t te p Γ) ds [] c1 R, fun {p Γ c R} h Hd0 H0 σ Hd H e Q q =>
  it.ok h _ _ σ Hd H e _ fun J rs c1 Hd1 H1 hS x1 e1 ok D hD => by
    obtain ⟨hM, hS⟩ := hS
    have nDp : D ≠ p := e1.np hD
    have nD : H D = none := back_hid x1 hD nDp
    have nD1 : Hd1 D = none := Evl.fresh_back x1.i hD
    have hid0 : hid p H D = none := by rw [hid_ne nDp]; exact nD
    have mutD : ∀ {k : Nat} {Hd2 G2 : Hp} {o : HO}, EnB K p Hd0 H0 Γ k σ Hd2 G2 → Ext Hd (hid p H) Hd2 G2 → Hd2 D = none → EnB K p Hd0 H0 Γ k σ Hd2 (upd G2 D o) ∧ Ext Hd (hid p H) Hd2 (upd G2 D o) := fun {k Hd2 G2 o} e2 x2 n2 => by
      have x3 := x2.mut (o := o) hid0 n2
      obtain ⟨bo, hbo, hbb⟩ := e2.b
      exact ⟨e.draw x3 e2.d ⟨bo, by rw [upd_ne nDp.symm]; exact hbo, hbb⟩, x3⟩
    obtain ⟨e10, x10⟩ := mutD (o := .lst []) e1 x1 nD1
    refine ⟨fun i j G => j = rs.length - i ∧ i ≤ rs.length ∧ ∃ Hd2 acc qs ci, Ex Hd1 Hd2 ∧ Ext Hd (hid p H) Hd2 G ∧ EnB K p Hd0 H0 Γ ci σ Hd2 G ∧ Hd2 D = none ∧ G D = some (.lst acc) ∧ DtA K Hd2 acc qs ∧ qs.length ≤ i ∧ lcY (itY g t te p Γ) (rs.drop i) qs ci R,
      ⟨rs.length, rfl, Nat.zero_le _, Hd1, [], [], c1, .refl _, x10, e10, nD1, upd_same, .nil, Nat.le_refl _, by rw [List.drop_zero]; exact hS⟩, ?_⟩
    rintro i j G ⟨rfl, hle, Hd2, acc, qs, ci, xd, x2, e2, n2, a2, t2, l2, w2⟩
    obtain ⟨st, go⟩ := ok Hd2 G xd x2.i
    by_cases hlt : i < rs.length
    · have hd : rs[i]? = some rs[i] := by simp [hlt]
      obtain ⟨gi, yl⟩ := go i _ hd
      rw [List.drop_eq_getElem_cons hlt] at w2
      obtain ⟨Δ, hg, w2⟩ := w2
      refine .inr ⟨gi, fun G' => ∃ Hd2 acc qs ci, Ex Hd1 Hd2 ∧ Ext Hd (hid p H) Hd2 G' ∧ EnB K p Hd0 H0 Γ ci σ Hd2 G' ∧ Hd2 D = none ∧ G' D = some (.lst acc) ∧ DtA K Hd2 acc qs ∧ qs.length ≤ i + 1 ∧ lcY (itY g t te p Γ) (rs.drop (i + 1)) qs ci R, fun G' w => ⟨rs.length - (i + 1), by omega, rfl, hlt, w⟩, fun x H3 y3 => ?_⟩
      obtain ⟨Hd3, x3, d3⟩ := yl x H3 y3
      have n3 : Hd3 D = none := x3.f _ _ n2 a2
      have a3 := x3.h _ _ a2
      refine EnB.gd ((e2.ext x3).wipe vs) (g.ok hg) d3 fun σ2 e3 ww => ⟨ww.trans (wipe_wipe fun _ z => z), ?_⟩
      refine t.ok w2 _ _ σ2 Hd3 H3 e3 _ fun b c3 Hd4 H4 w4 x4 e4 => ?_
      have a4 : H4 D = some (.lst acc) := x4.h _ _ (by rw [hid_ne nDp]; exact a3)
      have n4 : Hd4 D = none := x4.f _ _ n3 (by rw [hid_ne nDp]; exact a3)
      cases b with
      | true =>
        refine iteT (te.ok w4 _ _ σ2 Hd4 H4 e4 _ fun v r c5 Hd5 H5 hr x5 e5 d5 => ?_)
        have a5 : H5 D = some (.lst acc) := x5.h _ _ (by rw [hid_ne nDp]; exact a4)
        have n5 : Hd5 D = none := x5.f _ _ n4 (by rw [hid_ne nDp]; exact a4)
        have l4 : acc.length < sizeLine := by
          have l0 := t2.length
          have l2 : acc.length < 100000 := by omega
          exact Nat.lt_of_lt_of_le l2 (by decide)
        have xT : Ext Hd (hid p H) Hd5 H5 := ((x2.hid2 x3.hidE).hid2 x4).hid2 x5
        obtain ⟨eD, xD⟩ := mutD (o := .lst (acc ++ [v])) (e.draw xT e5.d e5.b) xT n5
        exact ⟨acc, a5, l4, Hd5, _, qs ++ [r], c5, xd.trans (x3.d.trans (x4.d.trans x5.d)), xD, eD, n5, upd_same, (t2.mono (x3.d.trans (x4.d.trans x5.d))).append (.cons d5 .nil), by rw [List.length_append, List.length_singleton]; omega, hr⟩
      | false =>
        have xT : Ext Hd (hid p H) Hd4 H4 := (x2.hid2 x3.hidE).hid2 x4
        exact iteF ⟨Hd4, acc, qs, c3, xd.trans (x3.d.trans x4.d), xT, e.draw xT e4.d e4.b, n4, a4, t2.mono (x3.d.trans x4.d), by omega, w4⟩
    · have ei : i = rs.length := by omega
      subst ei
      rw [List.drop_length] at w2
      exact .inl ⟨st, q D acc qs ci Hd2 G w2 x2 e2 nD n2 a2 t2⟩⟩
/-! ### statements -/
def ySeq (s r : YS K) : YS K := ⟨tSeq s.ts r.ts, fun p Γ c R => s.wp p Γ c fun o c1 => match o with | .nx Δ => r.wp p Δ c1 R | .rt d => R (.rt d) c1, fun {p Γ c R} h Hd0 H0 σ Hd H e D q1 q2 =>
  s.ok h _ _ σ Hd H e _ (fun Δ c1 σ1 Hd1 H1 h1 e1 x1 => r.ok h1 _ _ σ1 Hd1 H1 e1 D (fun Θ c2 σ2 Hd2 H2 h2 e2 x2 => q1 Θ c2 σ2 Hd2 H2 h2 e2 (x1.trans x2)) q2) q2⟩
def ySet (i : Nat) (a : YX K) : YS K := ⟨tAsg a.te (gName i), fun p Γ c R => a.wp p Γ c fun d c1 => R (.nx (Γ.set i (.dat d))) c1, fun {p Γ c R} h Hd0 H0 σ Hd H e D q1 q2 =>
  a.ok h _ _ σ Hd H e _ fun v d c1 Hd1 H1 h1 x1 e1 d1 => q1 _ c1 _ Hd1 H1 h1 (e1.set d1) x1.d⟩
def yTgt {vs : List Nat} (g : SG K vs) (a : YX K) : YS K := ⟨tAsg a.te g.g, fun p Γ c R => a.wp p Γ c fun d c1 => ∃ Δ, g.ev Γ d = some Δ ∧ R (.nx Δ) c1, fun {p Γ c R} h Hd0 H0 σ Hd H e D q1 q2 =>
  a.ok h _ _ σ Hd H e _ fun v d c1 Hd1 H1 h1 x1 e1 d1 => by
    obtain ⟨Δ, hg, hR⟩ := h1
    exact EnB.gd e1 (g.ok hg) d1 fun σ2 e2 _ => q1 Δ c1 σ2 Hd1 H1 hR e2 x1.d⟩
def yRet (a : YX K) : YS K := ⟨tRet a.te, fun p Γ c R => a.wp p Γ c fun d c1 => R (.rt d) c1, fun {p Γ c R} h Hd0 H0 σ Hd H e D q1 q2 =>
  a.ok h _ _ σ Hd H e _ fun v d c1 Hd1 H1 h1 x1 e1 d1 => q2 d c1 v Hd1 H1 h1 e1.en.x e1.d e1.b d1⟩
def yOwn (i : Nat) (a : YF K) : YS K := ⟨tAsg a.te (gName i), fun p Γ c R => a.wp p Γ c fun ds c1 => R (.nx (Γ.set i (.own ds))) c1, fun {p Γ c R} h Hd0 H0 σ Hd H e D q1 q2 =>
  a.ok h _ _ σ Hd H e _ fun l vs ds c1 Hd1 H1 hR x1 e1 n0 n1 h1 d1 => by
    have np : l ≠ p := e.np n0
    refine q1 _ c1 _ Hd1 H1 hR (e1.setOwn (Evl.fresh_back e.en.x.h n0) n1 h1 d1 np fun j es hj hs => ?_) x1.d
    obtain ⟨b, us, g1, _, _, g4, _⟩ := e.en.own hj
    rw [hs] at g1
    cases g1
    rw [n0] at g4
    cases g4⟩
def yApp (i : Nat) (a : YX K) : YS K := ⟨tDrop (tBM K "list" rAppend (tVar i) (tCons a.te tNil)), fun p Γ c R => ∃ ds, Γ[i]? = some (.own ds) ∧ ds.length < 100000 ∧ a.wp p Γ c fun d c1 => R (.nx (Γ.set i (.own (ds ++ [d])))) c1, fun {p Γ c R} h Hd0 H0 σ Hd H e D q1 q2 => by
  obtain ⟨ds, hi, hl, hw⟩ := h
  obtain ⟨l, ws, s1, n0, n1, h1, d1⟩ := e.en.own hi
  refine ⟨_, s1, tyV_list h1, ?_⟩
  refine a.ok hw _ _ σ Hd H e _ fun v r c1 Hd1 H1 hr x1 e1 dv => ?_
  obtain ⟨l2, ws2, s2, m0, m1, g1, t1⟩ := e1.en.own hi
  rw [s1] at s2
  cases s2
  exact ⟨l, ws2, v, rfl, rfl, g1, Nat.lt_of_lt_of_le (by rw [t1.length]; exact hl) (by decide : 100000 ≤ sizeLine), q1 _ c1 σ Hd1 _ hr (e1.change hi s1 (t1.append (.cons dv .nil))) x1.d⟩⟩
def yIfS (t : YT K) (a b : YS K) : YS K := ⟨tIfS t.tt a.ts b.ts, fun p Γ c R => t.wp p Γ c fun x c1 => if x = true then a.wp p Γ c1 R else b.wp p Γ c1 R, fun {p Γ c R} h Hd0 H0 σ Hd H e D q1 q2 =>
  t.ok h _ _ σ Hd H e _ fun x c1 Hd1 H1 h1 x1 e1 => by
    cases x with
    | true => exact iteT (a.ok h1 _ _ σ Hd1 H1 e1 D (fun Δ c2 σ2 Hd2 H2 h2 e2 x2 => q1 Δ c2 σ2 Hd2 H2 h2 e2 (x1.d.trans x2)) q2)
    | false => exact iteF (b.ok h1 _ _ σ Hd1 H1 e1 D (fun Δ c2 σ2 Hd2 H2 h2 e2 x2 => q1 Δ c2 σ2 Hd2 H2 h2 e2 (x1.d.trans x2)) q2)⟩
def yFrz (i : Nat) (s : YS K) : YS K := ⟨s.ts, fun p Γ c R => match Γ[i]? with | some (.own ds) => s.wp p (Γ.set i (.dat (.list ds))) c R | _ => s.wp p Γ c R, fun {p Γ c R} h Hd0 H0 σ Hd H e D q1 q2 => by
  split at h
  · rename_i ds hi
    obtain ⟨b, en, hb⟩ := e.up
    obtain ⟨l, ws, s1, n0, n1, h1, d1⟩ := en.own hi
    have np : l ≠ p := fun z => by subst z; rw [upd_same] at n0; cases n0
    have n0' : H0 l = none := by rw [upd_ne np] at n0; exact n0
    refine s.ok h Hd0 H0 σ (upd Hd l (.lst ws)) H ?_ D (fun Δ c1 σ1 Hd1 H1 hR e1 x1 => q1 Δ c1 σ1 Hd1 H1 hR e1 ((Ex.new n1).trans x1)) q2
    refine ⟨⟨e.en.x.take n0' n1 h1, by simp [e.en.l], fun j g hg => ?_, fun j k fs es w hjk g1 g2 => ?_⟩, by rw [upd_ne np.symm]; exact e.d, e.z, e.b, fun j fs hj => ?_⟩
    · by_cases z : i = j
      · subst z
        have q := get_set_eq hg
        subst q
        exact ⟨_, s1, .lst upd_same (d1.mono (Ex.new n1))⟩
      · rw [List.getElem?_set_ne z] at hg
        have q := e.en.g j g hg
        cases g with
        | any => trivial
        | val v => exact q
        | dat d => obtain ⟨v, k1, k2⟩ := q; exact ⟨v, k1, k2.mono (Ex.new n1)⟩
        | own es =>
          obtain ⟨b, us, k1, k0, k2, k3, k4⟩ := q
          have nb : b ≠ l := fun zb => by
            subst zb
            exact e.en.o i j ds es _ z hi hg s1 k1
          exact ⟨b, us, k1, k0, by rw [upd_ne nb]; exact k2, k3, k4.mono (Ex.new n1)⟩
        | lck es => obtain ⟨b, o, u, k1, k2, k3⟩ := q; exact ⟨b, o, u, k1, Ex.new n1 _ _ k2, k3.mono (Ex.new n1)⟩
        | ownD _ es =>
          obtain ⟨b, u, k1, k0, k2, k3, k4⟩ := q
          have nb : b ≠ l := fun zb => by
            subst zb
            rw [h1] at k3
            cases k3
            exact k4.nl rfl
          exact ⟨b, u, k1, k0, by rw [upd_ne nb]; exact k2, k3, k4.mono (Ex.new n1)⟩
    · have nj : i ≠ j := fun z => by subst z; exact nomatch get_set_eq g1
      have nk : i ≠ k := fun z => by subst z; exact nomatch get_set_eq g2
      rw [List.getElem?_set_ne nj] at g1
      rw [List.getElem?_set_ne nk] at g2
      exact e.en.o j k fs es w hjk g1 g2
    · by_cases z : i = j
      · subst z; exact nomatch get_set_eq hj
      · rw [List.getElem?_set_ne z] at hj
        exact e.o j fs hj
  · exact s.ok h Hd0 H0 σ Hd H e D q1 q2⟩
def forY (st : PyData → List G → Nat → (Out → Nat → Prop) → Prop) : List PyData → List G → Nat → (Out → Nat → Prop) → Prop
  | [], Γ, c, R => R (.nx Γ) c
  | d :: r, Γ, c, R => st d Γ c fun o c1 => match o with | .nx Θ => forY st r Θ c1 R | .rt v => R (.rt v) c1
def yFor {vs : List Nat} (it : YI K) (g : SG K vs) (body : YS K) : YS K := ⟨tFor it.wi g.g body.ts, fun p Γ c R => it.wp p Γ c fun ds c1 => forY (fun d Γ c R => ∃ Δ, g.ev Γ d = some Δ ∧ body.wp p Δ c R) ds Γ c1 R, fun {p Γ c R} h Hd0 H0 σ Hd H e D q1 q2 =>
  it.ok h _ _ σ Hd H e _ fun J rs c1 Hd1 H1 hS x1 e1 ok => by
    refine ⟨fun k j σ' H' => j = rs.length - k ∧ k ≤ rs.length ∧ ∃ Θ Hd' ck, Ex Hd1 Hd' ∧ EnB K p Hd0 H0 Θ ck σ' Hd' H' ∧ forY (fun d Γ c R => ∃ Δ, g.ev Γ d = some Δ ∧ body.wp p Δ c R) (rs.drop k) Θ ck R, ⟨rs.length, rfl, Nat.zero_le _, Γ, Hd1, c1, .refl _, e1, by rw [List.drop_zero]; exact hS⟩, ?_⟩
    rintro k j σ' H' ⟨rfl, hk, Θ, Hd', ck, xd, en, w⟩
    obtain ⟨st, go⟩ := ok Hd' H' xd en.en.x.i
    by_cases hlt : k < rs.length
    · have hd : rs[k]? = some rs[k] := by simp [hlt]
      obtain ⟨gi, yl⟩ := go k _ hd
      rw [List.drop_eq_getElem_cons hlt] at w
      obtain ⟨Δ, hg, w⟩ := w
      refine .inr ⟨gi, fun σ'' H'' => ∃ Θ Hd'' ck, Ex Hd1 Hd'' ∧ EnB K p Hd0 H0 Θ ck σ'' Hd'' H'' ∧ forY (fun d Γ c R => ∃ Δ, g.ev Γ d = some Δ ∧ body.wp p Δ c R) (rs.drop (k + 1)) Θ ck R, fun σ'' H'' w => ⟨rs.length - (k + 1), by omega, rfl, hlt, w⟩, fun x H2 y2 => ?_⟩
      obtain ⟨Hd2, x2, d2⟩ := yl x H2 y2
      refine EnB.gd (en.ext x2) (g.ok hg) d2 fun σ2 e2 _ => body.ok w _ _ σ2 Hd2 H2 e2 _ (fun Θ' c3 σ3 Hd3 H3 o3 e3 x3 => ⟨Θ', Hd3, c3, xd.trans (x2.d.trans x3), e3, o3⟩) q2
    · have ek : k = rs.length := by omega
      subst ek
      rw [List.drop_length] at w
      exact .inl ⟨st, q1 Θ ck σ' Hd' H' w en (x1.d.trans xd)⟩⟩
/-! ### a def's run -/
def runY (N : List Str) (s : YS K) (ds : List PyData) (c : Nat) (R : PyData → Nat → Prop) : Prop := ∀ p, s.wp p (startB N p ds) c fun o c1 => match o with | .rt d => R d c1 | .nx _ => R .none c1
end
section
variable {P : Program} {w : World} {K : PySem.W.Frag} {mg : Str → Option Value} {base : Heap}
theorem ok_fnY {x : Str} {ps N : List Str} {st : Stmt} {k n : Nat} (X : Tx K mg x ps st) (S : FnScope N ps (defScope st)) (hn : ps.length = n + 1) (hN : 1 ≤ N.length) (s : YS K)
    (hb : ∀ (f : Addr) (cdv : Value) (A : Around) (outer : List Env) (s' : Shared) (H : Hp) (E : XK), Room k (A.deeper (envOfC x (defScope st) s'.heap.objs.size f cdv)) → ∃ t, PSs (cxOf CX0 P w K mg base N x (defScope st) f cdv A outer s' H E).nox (defBody st) t ∧ t = s.ts) :
    Df P w K mg base (k + 1) x ps (spY K n (runY N s)) :=
  X.ok S (fun vs H Q E h => h.1.trans hn.symm) fun f cdv A outer s' H vs Q E hr h => by
    obtain ⟨hl, p, c, Hd, ds, o, ws, R, rfl, e, k0, ho, hbx, hd, hf, q⟩ := h
    obtain ⟨t, h1, rfl⟩ := hb f cdv A outer s' H E hr
    refine ⟨_, h1, s.ok (hf p) _ _ _ _ _ (startB_en e k0 ho hbx hd hN) _ (fun Δ c' σ' Hd' H' hR e' x => ?_) fun r c' v Hd' H' hR x k2 b2 dv => q v r c' Hd' H' hR x k2 b2 dv⟩
    exact q .non .none c' Hd' H' hR e'.en.x e'.d e'.b .non
end
end DL

namespace DL
open PySem PySem.Spec PyProof PyProof.Rows L2
open Evl (Ex)
open RZ
/-! ### expressions that may raise -/
inductive Rws where
  | ok (ds : List PyData) | er (k : Nat) (y : PyData)
def PostX (K : PySem.W.Frag) (es : List (Addr × Str)) (E : XK) (Hd0 H0 Hd H : Hp) (Q : VK) : Rw → Prop
  | .ok d => ∀ v Hd' H', Ext Hd H Hd' H' → Dt K Hd' v d → Q v H'
  | .er k y => PostE es E Hd0 H0 k y
def PostXs (K : PySem.W.Frag) (es : List (Addr × Str)) (E : XK) (Hd0 H0 Hd H : Hp) (Q : List V → Hp → Prop) : Rws → Prop
  | .ok d => ∀ v Hd' H', Ext Hd H Hd' H' → DtA K Hd' v d → Q v H'
  | .er k y => PostE es E Hd0 H0 k y
structure ZX (K : PySem.W.Frag) (es : List (Addr × Str)) where
  te : (L2.St → XK) → TE
  ev : List G → Option Rw
  ok : ∀ {Γ : List G} {z : Rw}, ev Γ = some z → ∀ E Hb Ob Hd0 H0 σ Hd H, Ex Hb Ob → Ext Hb Ob Hd H → En K Hd0 H0 Γ σ Hd H → ∀ Q : VK, PostX K es (E σ) Hb Ob Hd H Q z → te E σ H Q
structure ZA (K : PySem.W.Frag) (es : List (Addr × Str)) where
  ta : (L2.St → XK) → TA
  ev : List G → Option Rws
  ok : ∀ {Γ : List G} {z : Rws}, ev Γ = some z → ∀ E Hb Ob Hd0 H0 σ Hd H, Ex Hb Ob → Ext Hb Ob Hd H → En K Hd0 H0 Γ σ Hd H → ∀ Q : List V → Hp → Prop, PostXs K es (E σ) Hb Ob Hd H Q z → ta E σ H Q
section
variable {K : PySem.W.Frag} {es : List (Addr × Str)}
def zP (a : SX K) : ZX K es := ⟨fun _ => a.te, fun Γ => (a.ev Γ).bind fun d => some (.ok d), fun {Γ z} h E Hb Ob Hd0 H0 σ Hd H e0 eb e Q q => by
  obtain ⟨d, h1, h⟩ := bnd h
  cases h
  exact a.ok h1 _ _ σ Hd H e Q q⟩
def zPA (a : SA K) : ZA K es := ⟨fun _ => a.ta, fun Γ => (a.ev Γ).bind fun d => some (.ok d), fun {Γ z} h E Hb Ob Hd0 H0 σ Hd H e0 eb e Q q => by
  obtain ⟨d, h1, h⟩ := bnd h
  cases h
  exact a.ok h1 _ _ σ Hd H e Q q⟩
def zA0 : ZA K es := ⟨fun _ => tNil, fun _ => some (.ok []), fun {Γ z} h E Hb Ob Hd0 H0 σ Hd H e0 eb e Q q => by
  cases h
  exact q [] Hd H (.refl e.x.i) .nil⟩
def zA1 (x : ZX K es) (r : ZA K es) : ZA K es := ⟨fun E => tCons (x.te E) (r.ta E), fun Γ => (x.ev Γ).bind fun z => match z with | .ok d => ((r.ev Γ).bind fun w => match w with | .ok ds => some (.ok (d :: ds)) | .er k y => some (.er k y)) | .er k y => some (.er k y), fun {Γ z} h E Hb Ob Hd0 H0 σ Hd H e0 eb e Q q => by
  obtain ⟨z1, h1, h⟩ := bnd h
  refine x.ok h1 E _ _ _ _ σ Hd H e0 eb e _ ?_
  cases z1 with
  | ok d =>
    obtain ⟨z2, h2, h⟩ := bnd h
    intro v Hd1 H1 x1 d1
    refine r.ok h2 E _ _ _ _ σ Hd1 H1 e0 (eb.trans x1) (e.ext x1) _ ?_
    cases z2 with
    | ok ds =>
      cases h
      exact fun vs Hd2 H2 x2 d2 => q _ Hd2 H2 (x1.trans x2) (.cons (d1.mono x2.d) d2)
    | er k y => cases h; exact q
  | er k y => cases h; exact q⟩
/-- a call that may raise -/
def zCall (n : Nat) (fn : List PyData → Option Rw) (a : ZA K es) : ZX K es := ⟨fun E => tCallS (spW K es n fn) E (a.ta E), fun Γ => (a.ev Γ).bind fun z => match z with | .ok ds => if ds.length = n then fn ds else none | .er k y => some (.er k y), fun {Γ z} h E Hb Ob Hd0 H0 σ Hd H e0 eb e Q q => by
  obtain ⟨z1, h1, h⟩ := bnd h
  refine a.ok h1 E _ _ _ _ σ Hd H e0 eb e _ ?_
  cases z1 with
  | ok ds =>
    intro vs Hd1 H1 x1 d1
    have h : (if ds.length = n then fn ds else none) = some z := h
    split at h
    · rename_i c
      refine ⟨by rw [d1.length]; exact c, Hd1, ds, z, x1.i, d1, c, h, ?_⟩
      cases z with
      | ok d => exact fun v Hd2 H2 x2 dv => q _ Hd2 H2 (x1.trans x2) dv
      | er k y => exact PostE.ext e0 (eb.trans x1) q
    · cases h
  | er k y => cases h; exact q⟩
/-- a call of a def that does not raise -/
def zFn {E0 : XK} (n : Nat) (fn : List PyData → Option PyData) (a : ZA K es) : ZX K es := ⟨fun E => tCall (spF K n fn) [] E0 (a.ta E), fun Γ => (a.ev Γ).bind fun z => match z with | .ok ds => if ds.length = n then (fn ds).bind fun d => some (.ok d) else none | .er k y => some (.er k y), fun {Γ z} h E Hb Ob Hd0 H0 σ Hd H e0 eb e Q q => by
  obtain ⟨z1, h1, h⟩ := bnd h
  refine a.ok h1 E _ _ _ _ σ Hd H e0 eb e _ ?_
  cases z1 with
  | ok ds =>
    intro vs Hd1 H1 x1 d1
    have h : (if ds.length = n then (fn ds).bind fun d => some (Rw.ok d) else none) = some z := h
    split at h
    · rename_i c
      obtain ⟨d, h2, h⟩ := bnd h
      cases h
      refine ⟨by rw [List.append_nil, d1.length]; exact c, Hd1, ds, d, x1.i, by rw [List.append_nil]; exact d1, ⟨c, h2⟩, fun v Hd2 H2 x2 dv => q v Hd2 H2 (x1.trans x2) dv⟩
    · cases h
  | er k y => cases h; exact q⟩
def zCB {r : List V → Hp → VK → Prop} (F : FC K r) (a : ZA K es) : ZX K es := ⟨fun E => tCB r (a.ta E), fun Γ => (a.ev Γ).bind fun z => match z with | .ok ds => (F.f ds).bind fun d => some (.ok d) | .er k y => some (.er k y), fun {Γ z} h E Hb Ob Hd0 H0 σ Hd H e0 eb e Q q => by
  obtain ⟨z1, h1, h⟩ := bnd h
  refine a.ok h1 E _ _ _ _ σ Hd H e0 eb e _ ?_
  cases z1 with
  | ok ds =>
    intro vs Hd1 H1 x1 d1
    obtain ⟨d, h2, h⟩ := bnd h
    cases h
    exact F.ok h2 Hd1 H1 vs x1.i d1 Q fun u Hd2 H2 x2 d2 => q u Hd2 H2 (x1.trans x2) d2
  | er k y => cases h; exact q⟩
def zOp {r : L2.R2} (F : F2 K r) (a b : ZX K es) : ZX K es := ⟨fun E => tOp r (a.te E) (b.te E), fun Γ => (a.ev Γ).bind fun z => match z with | .ok x => ((b.ev Γ).bind fun w => match w with | .ok y => (F.f x y).bind fun d => some (.ok d) | .er k y => some (.er k y)) | .er k y => some (.er k y), fun {Γ z} h E Hb Ob Hd0 H0 σ Hd H e0 eb e Q q => by
  obtain ⟨z1, h1, h⟩ := bnd h
  refine a.ok h1 E _ _ _ _ σ Hd H e0 eb e _ ?_
  cases z1 with
  | ok x =>
    obtain ⟨z2, h2, h⟩ := bnd h
    intro v Hd1 H1 x1 d1
    refine b.ok h2 E _ _ _ _ σ Hd1 H1 e0 (eb.trans x1) (e.ext x1) _ ?_
    cases z2 with
    | ok y =>
      obtain ⟨d, h3, h⟩ := bnd h
      cases h
      exact fun w Hd2 H2 x2 d2 => F.ok h3 Hd2 H2 v w x2.i (d1.mono x2.d) d2 Q fun u Hd3 H3 x3 d3 => q u Hd3 H3 ((x1.trans x2).trans x3) d3
    | er k y => cases h; exact q
  | er k y => cases h; exact q⟩
def zIf (t : ST K) (a b : ZX K es) : ZX K es := ⟨fun E => tIf t.tt (a.te E) (b.te E), fun Γ => (t.ev Γ).bind fun c => if c = true then a.ev Γ else b.ev Γ, fun {Γ z} h E Hb Ob Hd0 H0 σ Hd H e0 eb e Q q => by
  obtain ⟨c, h1, h⟩ := bnd h
  refine t.ok h1 _ _ σ Hd H e _ fun Hd1 H1 x1 => ?_
  have q1 : PostX K es (E σ) Hb Ob Hd1 H1 Q z := by
    cases z with
    | ok d => exact fun v Hd2 H2 x2 dv => q v Hd2 H2 (x1.trans x2) dv
    | er k y => exact q
  cases c with
  | true => exact iteT (a.ok h E _ _ _ _ σ Hd1 H1 e0 (eb.trans x1) (e.ext x1) Q q1)
  | false => exact iteF (b.ok h E _ _ _ _ σ Hd1 H1 e0 (eb.trans x1) (e.ext x1) Q q1)⟩
def xSetZ (i : Nat) (a : ZX K es) : SSX K es := ⟨fun E => tAsg (a.te (WE (wX E))) (gName i), fun Γ => (a.ev Γ).bind fun z => match z with | .ok d => some (.nx (Γ.set i (.dat d))) | .er k y => some (.er k y), fun {Γ o} h E Hd0 H0 σ Hd H e0 e D q => by
  obtain ⟨z1, h1, h⟩ := bnd h
  refine a.ok h1 (WE (wX E)) _ _ _ _ σ Hd H e0 e.x e _ ?_
  cases z1 with
  | ok d => cases h; exact fun v Hd1 H1 x1 d1 => q _ Hd1 H1 ((e.ext x1).set d1) x1.d
  | er k y => cases h; exact q⟩
def xRetZ (a : ZX K es) : SSX K es := ⟨fun E => tRet (a.te (WE (wX E))), fun Γ => (a.ev Γ).bind fun z => match z with | .ok d => some (.rt d) | .er k y => some (.er k y), fun {Γ o} h E Hd0 H0 σ Hd H e0 e D q => by
  obtain ⟨z1, h1, h⟩ := bnd h
  refine a.ok h1 (WE (wX E)) _ _ _ _ σ Hd H e0 e.x e _ ?_
  cases z1 with
  | ok d => cases h; exact fun v Hd1 H1 x1 d1 => q v Hd1 H1 (e.x.trans x1) d1
  | er k y => cases h; exact q⟩
def xDropZ (a : ZX K es) : SSX K es := ⟨fun E => tDrop (a.te (WE (wX E))), fun Γ => (a.ev Γ).bind fun z => match z with | .ok d => some (.nx Γ) | .er k y => some (.er k y), fun {Γ o} h E Hd0 H0 σ Hd H e0 e D q => by
  obtain ⟨z1, h1, h⟩ := bnd h
  refine a.ok h1 (WE (wX E)) _ _ _ _ σ Hd H e0 e.x e _ ?_
  cases z1 with
  | ok d => cases h; exact fun v Hd1 H1 x1 d1 => q σ Hd1 H1 (e.ext x1) x1.d
  | er k y => cases h; exact q⟩
end
end DL

namespace DL
open PySem PySem.Spec PyProof.Rows L2
open Evl (Ex)
/-- the same of a clause with two classes -/
def wKeep2 (K : PySem.W.Frag) (c1 c2 : Value) (i j : Nat) (Wout : WX) (D : Ends) : WX := fun cls d σ H =>
  ∃ b, PySem.W.exmAny K cls [c1, c2] = some b ∧ (b = true → ∀ a, H a = none → D.nx ((σ.set j (some (.ref a))).set i none) (upd H a (hld a cls d))) ∧ (b = false → Wout cls d σ H)
section
variable {X : Cx} {x1 x2 n m : Str} {c1 c2 : Value} {i j : Nat} {body : List Stmt} {np np2 tpos pos pos' p1 p2 p3 : Pos} {kk : Nat} {tb : WX → TS} {Wout : WX}
theorem ps_try_keep2 (hs : X.stack = X.env :: X.outer) (hf : X.env.frame = some X.env.locals) (hN : X.N.Nodup) (hi : X.N[i]? = some n) (hj : X.N[j]? = some m) (hln : X.env.kindOf n = some .local) (hlm : L2.Loc X.env.scope m) (hmf : X.env.scope.names.lookup m = some .local) (hc1 : Names X x1 c1) (hc2 : Names X x2 c2) (tk : Takes X Wout)
    (hv : ∀ (a : Addr) (oe : Obj) (pn : List (Addr × Obj)), PE (X.suite a ((a, oe) :: pn)) (.Name n p2) (tVar i)) (hsw : ∀ (a : Addr) (oe : Obj) (pn : List (Addr × Obj)), swapsWith (.Name n p2) (some (.Name m p1)) p3.line (X.suite a ((a, oe) :: pn)).env = pure false)
    (hb : ∀ (W : WX) (pn : List (Addr × Obj)) (xe : Value → Shared → Prop), Takes (X.tr pn xe) W → PassesOwn (model X.prog X.w) X.A X.env xe → PSs (X.tr pn xe) body (tb W)) :
    PS X (.Try body [.ExceptHandler (some (.Tuple [.Name x1 np, .Name x2 np2] kk tpos)) (some n) [.Assign [.Name m p1] (.Name n p2) p3] pos'] [] [] pos) (fun D σ H => tb (wKeep2 X.K c1 c2 i j Wout D) D σ H) := by
  refine ⟨fun pins s σ H D I h => ?_⟩
  have okX := I.ok
  have frX : X.A.frames = some (X.env :: X.outer) := by rw [okX.frames, hs]
  have locn : Loc X.env.scope n := .inl hln
  refine wpAny_Try_except ?_
  refine wpAny_mono ((hb (wKeep2 X.K c1 c2 i j Wout D) (X.pn ++ pins) (fun e s₁ => wpAny (model X.prog X.w) X.A (noteFrame e X.env) (fun _ s₂ => wpAny (model X.prog X.w) X.A (setFlight e none) (fun _ s₃ => wpAny (model X.prog X.w) X.A (handleBy e X.env [.ExceptHandler (some (.Tuple [.Name x1 np, .Name x2 np2] kk tpos)) (some n) [.Assign [.Name m p1] (.Name n p2) p3] pos']) (SP X pins D) X.xe s₃) X.xe s₂) X.xe s₁) (fun u s' xx => ?_) PassesOwn.looking).run [] s σ H D (I.toTry _) h) (fun f s1 hq => ?_) (fun e s1 he => he)
  · obtain ⟨a, B, sI, pn1, σ1, H1, cls, d, rfl, Jt, nb, up, sky, na, os, ag, b, hb1, hyes, hno⟩ := xx
    have J : Inv X pins σ1 H1 sI := Jt.ofTry okX
    have skyX : Sky B (X.env :: X.outer) a (L2.Zc cls d) X.env.locals s'.heap := by rw [← hs]; exact sky
    show wpAny (model X.prog X.w) X.A (noteFrame (.ref a) X.env) _ _ _
    have newB : B.get? a = none := skyX.elim (fun z => z.2.1) fun z => z.elim (fun z => z.2.1) fun z => z.2.1
    refine Sky.land L2.Zc.steady frX hf skyX fun h3 fl3 up3 => ?_
    have J3 : Inv X pins σ1 H1 { s' with heap := h3 } := J.landed nb fl3.1 (up.trans up3) os ag
    obtain ⟨oe3, vs3, he3, hz3, hd3⟩ := fl3.there
    have outF : ∀ {h : Heap} {o : Obj} {vs : Array Value}, h.FunFrames B (X.env :: X.outer) → h.get? a = some o → o.data = .fields vs → a ∉ frs (X.env :: X.outer) := fun {h o vs} ff e dd hm => by
      obtain ⟨_, o', e', hnf⟩ := ff.mem hm
      rw [e] at e'
      cases e'
      exact hnf _ dd
    have nfr := outF fl3.2.2.1 he3 hd3
    have nL : a ≠ X.env.locals := fun z => nfr (List.mem_filterMap.mpr ⟨X.env, List.mem_cons_self, by rw [hf, z]⟩)
    have nF : a ∉ X.fs := fun hm => by
      obtain ⟨e, he, q⟩ := List.mem_filterMap.mp hm
      exact nfr (List.mem_filterMap.mpr ⟨e, List.mem_cons_of_mem _ he, q⟩)
    have newI : sI.heap.get? a = none := by
      cases z : sI.heap.get? a with
      | none => rfl
      | some o =>
        have := nb a o z (by rw [hs]; exact nfr)
        rw [newB] at this
        cases this
    have new0 : a ∉ X.ex → X.s_0.heap.get? a = none := fun hx => by
      cases z : X.s_0.heap.get? a with
      | none => rfl
      | some o =>
        obtain ⟨o', h'⟩ := J.base.there a o z hx
        rw [newI] at h'
        cases h'
    have S3 := J3.suite he3 hd3 na nL nF
    refine wpAny_handleBy_cons (codeAny_handlers_test ?_) (by intro q; cases q)
    have LT : PySem.W.Looks (model X.prog X.w) h3 (typeOf (.ref a)) cls := fun A Q E s k q => wpAny_typeOf_ref (k _ _ he3) (by rw [hz3.1]; exact q)
    have look : ∀ {x : Str} {np : Pos} {c : Value}, Names X x c → ∀ {Q : Value → Shared → Prop} {E : Value → Shared → Prop}, Q c { s' with heap := h3 } → wpAny (model X.prog X.w) (X.A.mark (some (.ref a))) (eval (.Name x np) X.env) Q E { s' with heap := h3 } := fun {x np c} hc {Q E} q => by
      obtain ⟨hg, hdbg, hm | ⟨hm, hv, hnn⟩⟩ := hc
      · exact ld_glob (X := X.suite a ((a, oe3) :: (X.pn ++ pins))) S3 hg hm q hdbg
      · exact ld_blt (X := X.suite a ((a, oe3) :: (X.pn ++ pins))) S3 hg hm hv q hnn hdbg
    refine wpAny_Tuple ?_
    refine wpAny_items_cons (look hc1 ?_)
    refine wpAny_items_cons (look hc2 ?_)
    refine wpAny_items_nil ⟨by size_fits, ?_⟩
    have kp : ∀ q o, h3.get? q = some o → (h3.push { cls := .type "tuple", data := .seq [c1, c2].toArray }).get? q = some o := fun _ _ z => Heap.get?_push_of_some _ z
    have LT2 : PySem.W.Looks (model X.prog X.w) (h3.push { cls := .type "tuple", data := .seq [c1, c2].toArray }) (typeOf (.ref a)) cls := LT.keeps kp
    refine (PySem.W.exm_tup2 (M := model X.prog X.w) ((J3.kIn).keeps kp) LT2 (Heap.get?_push_size h3 rfl) hb1).here ?_
    have fl4 : HandSPX.FlyingZ B (X.env :: X.outer) a (L2.Zc cls d) (h3.push { cls := .type "tuple", data := .seq [c1, c2].toArray }) := by
      obtain ⟨f1, f2, f3, oe, vs, T, oT, ts, g1, g2, g3, g4, g5, g6, g7, g8, g9⟩ := fl3
      exact ⟨fun b o e => kp b o (f1 b o e), f2, Heap.FunFrames.of_keeps (fun b o e _ => ⟨o, kp b o e, rfl⟩) f3, oe, vs, T, oT, ts, kp _ _ g1, g2, g3, g4, g5, g6, kp _ _ g7, g8, g9⟩
    have up4 : s'.heap.UpToSlots (h3.push { cls := .type "tuple", data := .seq [c1, c2].toArray }) := up3.trans (Heap.UpToSlots.of_keeps kp)
    clear J3 S3 he3 hd3 nfr
    generalize (h3.push { cls := .type "tuple", data := .seq [c1, c2].toArray }) = h3' at fl4 up4 ⊢
    clear fl3 up3 look
    have fl3 := fl4
    have up3 := up4
    cases b with
    | true =>
      refine codeAny_handlers_suite_as ?_
      refine HandSPX.lands_againZ fl3 fun h4 fl4 up4 => ?_
      have J4 : Inv X pins σ1 H1 { s' with heap := h4 } := J.landed nb fl4.1 ((up.trans up3).trans up4) os ag
      obtain ⟨oe4, vs4, he4, hz4, hd4⟩ := fl4.there
      have S4 := J4.suite he4 hd4 na nL nF
      refine store_ok (X := X.suite a ((a, oe4) :: (X.pn ++ pins))) (v := .ref a) S4 hN hi locn rfl (fun s5 S5 => ?_) (.inr hln)
      have ps : PS (X.suite a ((a, oe4) :: (X.pn ++ pins))) (.Assign [.Name m p1] (.Name n p2) p3) (tAsg (tVar i) (gName j)) := ps_set hN hj hlm (hv a oe4 _) (hsw a oe4 _) (.inr hmf)
      have hin : i < σ1.length := by
        rw [J.len]
        exact (List.getElem?_eq_some_iff.mp hi).1
      refine wpAny_mono ((pss_one ps).run [] s5 _ H1 ⟨fun σ' H' => σ' = (σ1.set i (some (.ref a))).set j (some (.ref a)) ∧ H' = H1, fun _ _ => False, fun _ _ => False, fun _ _ => False⟩ S5 ⟨_, by rw [List.getElem?_set_self hin], rfl, rfl⟩) (fun f s6 hq => ?_) (fun _ _ z => False.elim z)
      cases f with
      | brk =>
        obtain ⟨_, _, _, q⟩ := hq
        exact q.elim
      | cont =>
        obtain ⟨_, _, _, q⟩ := hq
        exact q.elim
      | ret u =>
        obtain ⟨_, _, _, _, _, q⟩ := hq
        exact q.elim
      | next =>
        obtain ⟨σ6, H6, S6, eσ, eH⟩ := hq
        subst eσ eH
        obtain ⟨g1, _, _, _, _⟩ := S6.pin (a, oe4) List.mem_cons_self
        have A6 := adopt (S6.unsuite okX) (cls := cls) (d := d) g1 hz4 hd4 na nL new0 fun p hp z => by
          have := (J.pin p hp).1
          rw [z, newI] at this
          cases this
        have A7 := hyes rfl a na
        show wpAny _ _ (do bindName X.env n .none; unbindBehindTheSuite X.env n pos') _ _ _
        refine gone_ok A6 hN hi hln fun s7 J7 => ?_
        refine ⟨_, _, J7, ?_⟩
        have e : ((σ1.set i (some (.ref a))).set j (some (.ref a))).set i none = (σ1.set j (some (.ref a))).set i none := by
          by_cases z : i = j
          · subst z
            simp
          · rw [List.set_comm _ _ z, List.set_set]
        rw [e]
        exact A7
    | false =>
      show wpAny _ X.A (handleBy (.ref a) X.env []) _ _ _
      refine wpAny_handleBy_nil ?_
      obtain ⟨_, _, _, oe, vs, T, oT, ts', he, hz, hd, h1, hr⟩ := id fl3
      unfold PySem.passOn
      refine wpAny_bind (wpAny_field he hd h1 ?_)
      rw [if_neg (show ¬ ((Value.ref T == Value.none) = true) from by simp)]
      have last : wpAny (model X.prog X.w) X.A (setFlight (.ref a) X.env.frame) (fun _ s4 => wpAny (model X.prog X.w) X.A (throw (.ref a) : Sem Flow) (SP X pins D) X.xe s4) X.xe { s' with heap := h3' } := by
        rw [hf]
        exact HandSPX.setFlight_upZ fl3 fun h4 hh4 up4 => wpAny_throw (tk _ _ ⟨a, B, sI, pins, σ1, H1, cls, d, rfl, J, nb, (up.trans up3).trans up4, .inr (.inr (by rw [hs]; exact hh4)), na, os, ag, hno rfl⟩)
      first
        | exact wpAny_bind (wpAny_pure (wpAny_bind last))
        | exact wpAny_bind last
  · cases f with
    | next =>
      obtain ⟨σ1, H1, J1, q⟩ := hq
      exact wpAny_execs_nil ⟨σ1, H1, J1.ofTry okX, q⟩
    | brk =>
      obtain ⟨σ1, H1, J1, q⟩ := hq
      exact ⟨σ1, H1, J1.ofTry okX, q⟩
    | cont =>
      obtain ⟨σ1, H1, J1, q⟩ := hq
      exact ⟨σ1, H1, J1.ofTry okX, q⟩
    | ret u =>
      obtain ⟨v1, σ1, H1, J1, r, q⟩ := hq
      exact ⟨v1, σ1, H1, J1.ofTry okX, r, q⟩
end
end DL

namespace DL
open PySem PySem.Spec PyProof PyProof.Rows L2
open Evl (Ex)
open RZ
/-! ### what is done with an error that was caught: slot j holds it -/
/-- an own class with one field -/
structure ErC (K : PySem.W.Frag) (C : Addr) (f : Str) : Prop where
  xc : ExcC K C
  no : PySem.W.findIn K (.ref C) f = some none
structure TX (K : PySem.W.Frag) (j : Nat) where
  te : TE
  ev : Addr → Str → PyData → List G → Option PyData
  ok : ∀ {C : Addr} {f : Str} {y d : PyData} {Γ : List G}, ev C f y Γ = some d → ErC K C f → ∀ Hd0 H0 σ Hd H a dx u, En K Hd0 H0 Γ σ Hd H → σ[j]? = some (some (.ref a)) → H a = some (hld a (.ref C) (some dx)) → H dx = some (.xd [(f, u)]) → flatD y = some u → ∀ Q : VK, (∀ v Hd' H', Ext Hd H Hd' H' → Dt K Hd' v d → Q v H') → te σ H Q
structure TT2 (K : PySem.W.Frag) (j : Nat) where
  tt : TT
  ev : Addr → Str → PyData → List G → Option Bool
  ok : ∀ {C : Addr} {f : Str} {y : PyData} {b : Bool} {Γ : List G}, ev C f y Γ = some b → ErC K C f → ∀ Hd0 H0 σ Hd H a dx u, En K Hd0 H0 Γ σ Hd H → σ[j]? = some (some (.ref a)) → H a = some (hld a (.ref C) (some dx)) → H dx = some (.xd [(f, u)]) → flatD y = some u → ∀ Q : Bool → Hp → Prop, (∀ Hd' H', Ext Hd H Hd' H' → Q b H') → tt σ H Q
structure TA2 (K : PySem.W.Frag) (j : Nat) where
  ta : TA
  ev : Addr → Str → PyData → List G → Option (List PyData)
  ok : ∀ {C : Addr} {f : Str} {y : PyData} {d : List PyData} {Γ : List G}, ev C f y Γ = some d → ErC K C f → ∀ Hd0 H0 σ Hd H a dx u, En K Hd0 H0 Γ σ Hd H → σ[j]? = some (some (.ref a)) → H a = some (hld a (.ref C) (some dx)) → H dx = some (.xd [(f, u)]) → flatD y = some u → ∀ Q : List V → Hp → Prop, (∀ v Hd' H', Ext Hd H Hd' H' → DtA K Hd' v d → Q v H') → ta σ H Q
section
variable {K : PySem.W.Frag} {j : Nat}
def eP (a : SX K) : TX K j := ⟨a.te, fun _ _ _ Γ => a.ev Γ, fun {C f y d Γ} h N Hd0 H0 σ Hd H x dx u e s1 h1 h2 hu Q q => a.ok h _ _ σ Hd H e Q q⟩
/-- caught.f -/
def eFld (g : Str) : TX K j := ⟨tFldH K g (tVar j), fun _ f y _ => if f = g then some y else none, fun {C f y d Γ} h N Hd0 H0 σ Hd H x dx u e s1 h1 h2 hu Q q => by
  split at h
  · rename_i c
    cases h
    subst c
    refine ⟨_, s1, x, C, dx, _, u, rfl, N.xc, N.no, h1, h2, by simp, q u Hd H (.refl e.x.i) ?_⟩
    cases y with
    | str s => cases hu; exact .str _
    | int i => cases hu; exact .int _
    | _ => cases hu
  · cases h⟩
/-- isinstance(caught, c) -/
def eIsi (c : V) (cv : Value) (hv : ∀ u, RelV c u → u = cv) (F : Addr → Option Bool) (hF : ∀ C b, F C = some b → PySem.W.kitOne K (.ref C) cv = some b) : TX K j := ⟨tCB (rIsH K) (tCons (tVar j) (tCons (tC c) tNil)), fun C _ _ _ => (F C).bind fun b => some (.bool b), fun {C f y d Γ} h N Hd0 H0 σ Hd H x dx u e s1 h1 h2 hu Q q => by
  obtain ⟨b, g1, h⟩ := bnd h
  cases h
  exact ⟨_, s1, x, C, dx, _, _, _, b, rfl, N.xc, h1, h2, hv, hF C b g1, q _ Hd H (.refl e.x.i) (.bl b)⟩⟩
/-- caught is None -/
def eIsN : TT2 K j := ⟨tTest (tOp (fun x y H Q => y = V.non ∧ Q (V.bl (decide (x = V.non))) H) (tVar j) (tC .non)), fun _ _ _ _ => some false, fun {C f y d Γ} h N Hd0 H0 σ Hd H x dx u e s1 h1 h2 hu Q q => by
  cases h
  exact ⟨_, s1, rfl, _, rfl, q Hd H (.refl e.x.i)⟩⟩
def eNotN : TT2 K j := ⟨tTest (tOp (fun x y H Q => y = V.non ∧ Q (V.bl (!decide (x = V.non))) H) (tVar j) (tC .non)), fun _ _ _ _ => some true, fun {C f y d Γ} h N Hd0 H0 σ Hd H x dx u e s1 h1 h2 hu Q q => by
  cases h
  exact ⟨_, s1, rfl, _, rfl, q Hd H (.refl e.x.i)⟩⟩
def eVal (a : TX K j) : TT2 K j := ⟨tB a.te, fun C f y Γ => (a.ev C f y Γ).bind fun d => match d with | .bool b => some b | _ => none, fun {C f y bb Γ} h N Hd0 H0 σ Hd H x dx u e s1 h1 h2 hu Q q => by
  obtain ⟨z, g1, h⟩ := bnd h
  refine a.ok g1 N _ _ σ Hd H x dx u e s1 h1 h2 hu _ fun v Hd1 H1 x1 d1 => ?_
  cases z with
  | bool b2 => cases h; cases d1; exact ⟨_, rfl, q Hd1 H1 x1⟩
  | _ => cases h⟩
def eIf (t : TT2 K j) (a b : TX K j) : TX K j := ⟨tIf t.tt a.te b.te, fun C f y Γ => (t.ev C f y Γ).bind fun c => if c = true then a.ev C f y Γ else b.ev C f y Γ, fun {C f y d Γ} h N Hd0 H0 σ Hd H x dx u e s1 h1 h2 hu Q q => by
  obtain ⟨c, g1, h⟩ := bnd h
  refine t.ok g1 N _ _ σ Hd H x dx u e s1 h1 h2 hu _ fun Hd1 H1 x1 => ?_
  cases c with
  | true => exact iteT (a.ok h N _ _ σ Hd1 H1 x dx u (e.ext x1) s1 (x1.h _ _ h1) (x1.h _ _ h2) hu Q fun v Hd2 H2 x2 d2 => q v Hd2 H2 (x1.trans x2) d2)
  | false => exact iteF (b.ok h N _ _ σ Hd1 H1 x dx u (e.ext x1) s1 (x1.h _ _ h1) (x1.h _ _ h2) hu Q fun v Hd2 H2 x2 d2 => q v Hd2 H2 (x1.trans x2) d2)⟩
def eA0 : TA2 K j := ⟨tNil, fun _ _ _ _ => some [], fun {C f y d Γ} h N Hd0 H0 σ Hd H x dx u e s1 h1 h2 hu Q q => by
  cases h
  exact q [] Hd H (.refl e.x.i) .nil⟩
def eA1 (a : TX K j) (r : TA2 K j) : TA2 K j := ⟨tCons a.te r.ta, fun C f y Γ => (a.ev C f y Γ).bind fun d => (r.ev C f y Γ).bind fun ds => some (d :: ds), fun {C f y d Γ} h N Hd0 H0 σ Hd H x dx u e s1 h1 h2 hu Q q => by
  obtain ⟨z, g1, h⟩ := bnd h
  obtain ⟨zs, g2, h⟩ := bnd h
  cases h
  exact a.ok g1 N _ _ σ Hd H x dx u e s1 h1 h2 hu _ fun v Hd1 H1 x1 d1 => r.ok g2 N _ _ σ Hd1 H1 x dx u (e.ext x1) s1 (x1.h _ _ h1) (x1.h _ _ h2) hu _ fun vs Hd2 H2 x2 d2 => q _ Hd2 H2 (x1.trans x2) (.cons (d1.mono x2.d) d2)⟩
def eLst (a : TA2 K j) : TX K j := ⟨tLst a.ta, fun C f y Γ => (a.ev C f y Γ).bind fun ds => if ds.length ≤ 100000 then some (.list ds) else none, fun {C f y d Γ} h N Hd0 H0 σ Hd H x dx u e s1 h1 h2 hu Q q => by
  obtain ⟨ds, g1, h⟩ := bnd h
  split at h
  · rename_i hc
    cases h
    refine a.ok g1 N _ _ σ Hd H x dx u e s1 h1 h2 hu _ fun vs Hd1 H1 x1 d1 => ⟨fits_of (d1.length ▸ hc), fun l hl => ?_⟩
    have y : Ext Hd1 H1 (upd Hd1 l (.lst vs)) (upd H1 l (.lst vs)) := (Ext.refl x1.i).new hl
    exact q _ _ _ (x1.trans y) (.lst upd_same (d1.mono (Ex.new (Evl.fresh_back x1.i hl))))
  · cases h⟩
def eTup (a : TA2 K j) : TX K j := ⟨tTupX a.ta, fun C f y Γ => (a.ev C f y Γ).bind fun ds => if ds.length ≤ 100000 then some (.tuple ds) else none, fun {C f y d Γ} h N Hd0 H0 σ Hd H x dx u e s1 h1 h2 hu Q q => by
  obtain ⟨ds, g1, h⟩ := bnd h
  split at h
  · rename_i hc
    cases h
    refine a.ok g1 N _ _ σ Hd H x dx u e s1 h1 h2 hu _ fun vs Hd1 H1 x1 d1 => ⟨fits_of (d1.length ▸ hc), fun l o hl ho => ?_⟩
    have y : Ext Hd1 H1 (upd Hd1 l (.frz o (.tup vs))) (upd H1 l (.frz o (.tup vs))) := (Ext.refl x1.i).new hl
    exact q _ _ _ (x1.trans y) (.tup (Tp.new ho) (d1.mono (Ex.new (Evl.fresh_back x1.i hl))))
  · cases h⟩
/-- the rest of the body behind the try: returns and tests -/
structure TS2 (K : PySem.W.Frag) (j : Nat) where
  ts : TS
  ev : Addr → Str → PyData → List G → Option PyData
  ok : ∀ {C : Addr} {f : Str} {y d : PyData} {Γ : List G}, ev C f y Γ = some d → ErC K C f → ∀ Hd0 H0 σ Hd H a dx u, En K Hd0 H0 Γ σ Hd H → σ[j]? = some (some (.ref a)) → H a = some (hld a (.ref C) (some dx)) → H dx = some (.xd [(f, u)]) → flatD y = some u → ∀ D : Ends, (∀ v Hd' H', Ext Hd0 H0 Hd' H' → Dt K Hd' v d → D.rt v H') → ts D σ H
def eRet (a : TX K j) : TS2 K j := ⟨tRet a.te, a.ev, fun {C f y d Γ} h N Hd0 H0 σ Hd H x dx u e s1 h1 h2 hu D q => a.ok h N _ _ σ Hd H x dx u e s1 h1 h2 hu _ fun v Hd1 H1 x1 d1 => q v Hd1 H1 (e.x.trans x1) d1⟩
/-- if t: return a; then r -/
def eIfR (t : TT2 K j) (a : TX K j) (r : TS2 K j) : TS2 K j := ⟨tSeq (tIfS t.tt (tRet a.te) tNext) r.ts, fun C f y Γ => (t.ev C f y Γ).bind fun c => if c = true then a.ev C f y Γ else r.ev C f y Γ, fun {C f y d Γ} h N Hd0 H0 σ Hd H x dx u e s1 h1 h2 hu D q => by
  obtain ⟨c, g1, h⟩ := bnd h
  refine t.ok g1 N _ _ σ Hd H x dx u e s1 h1 h2 hu _ fun Hd1 H1 x1 => ?_
  cases c with
  | true => exact iteT (a.ok h N _ _ σ Hd1 H1 x dx u (e.ext x1) s1 (x1.h _ _ h1) (x1.h _ _ h2) hu _ fun v Hd2 H2 x2 d2 => q v Hd2 H2 ((e.x.trans x1).trans x2) d2)
  | false => exact iteF (r.ok h N _ _ σ Hd1 H1 x dx u (e.ext x1) s1 (x1.h _ _ h1) (x1.h _ _ h2) hu D q)⟩
end
/-! ### pre; try: x = a (or a alone); except .. as e: caught = e; rest -/
theorem takes_no {X : Cx} : Takes X (fun _ _ _ _ => False) := fun u s' ⟨_, _, _, _, _, _, _, _, _, _, _, _, _, _, _, _, w⟩ => w.elim
def tTryB (s : Option Nat) (te : (L2.St → XK) → TE) (W : WX) : TS := match s with
  | some x => tAsg (te (WE W)) (gName x)
  | none => tDrop (te (WE W))
section
variable {K : PySem.W.Frag} {es : List (Addr × Str)} {Hd0 H0 Hd H : Hp} {Γ : List G} {σ : L2.St}
theorem hear_fall {C : Addr} {f : Str} {i j : Nat} {y d : PyData} {tail : TS2 K j} {D : Ends} (N : ErC K C f) (hij : i ≠ j) (hj : j < Γ.length) (ht : tail.ev C f y ((Γ.set j .any).set i .any) = some d) (e : En K Hd0 H0 Γ σ Hd H) {u : V} (hu : flatD y = some u) {dx a : Addr} {G2 : Hp} (x : Ext Hd H Hd G2)
    (h2 : G2 dx = some (.xd [(f, u)])) (na : G2 a = none) (q : ∀ v Hd' H', Ext Hd0 H0 Hd' H' → Dt K Hd' v d → D.rt v H') : tail.ts D ((σ.set j (some (.ref a))).set i none) (upd G2 a (hld a (.ref C) (some dx))) := by
  have e1 := e.ext x
  have e2 := e1.ext ((Ext.refl e1.x.i).mut (o := hld a (.ref C) (some dx)) na (Evl.fresh_back e1.x.i na))
  have e3 := e2.forget (i := j) (v := some (.ref a))
  have e4 := e3.forget (i := i) (v := none)
  have ne : dx ≠ a := fun z => by subst z; rw [na] at h2; cases h2
  refine tail.ok ht N _ _ _ Hd _ a dx u e4 ?_ upd_same (by rw [upd_ne ne]; exact h2) hu D q
  rw [List.getElem?_set_ne hij, List.getElem?_set_self (by rw [← e.l]; exact hj)]
def pHear1 (pre : SS K) (i j : Nat) (hij : i ≠ j) (kc : Nat) (C : Addr) (f : Str) (hk : es[kc]? = some (C, f)) (N : ErC K C f) (hx : PySem.W.exmOne K (.ref C) (.ref C) = some true) (s : Option Nat) (a : ZX K es) (rest : SS K) (tail : TS2 K j) (hr : tail.ts = rest.ts) : SS K :=
  ⟨tSeq pre.ts (tSeq (fun D σ H => tTryB s a.te (wKeep K (.ref C) i j (fun _ _ _ _ => False) D) D σ H) rest.ts), fun Γ => (pre.ev Γ).bind fun o => match o with
    | .nx Δ => (a.ev Δ).bind fun z => match z with
      | .ok d => rest.ev (match s with | some x => Δ.set x (.dat d) | none => Δ)
      | .er k y => if k = kc ∧ j < Δ.length ∧ (flatD y).isSome = true then (tail.ev C f y ((Δ.set j .any).set i .any)).bind fun r => some (.rt r) else none
    | .rt d => some (.rt d), fun {Γ o} h => by
  obtain ⟨o1, h1, h⟩ := bnd h
  intro Hd0 H0 σ Hd H e D q
  refine pre.ok h1 _ _ σ Hd H e _ ?_
  cases o1 with
  | rt d => cases h; exact q
  | nx Δ =>
    intro σ1 Hd1 H1 e1 x1
    obtain ⟨z, h2, h⟩ := bnd h
    have main : ∀ Q : VK, PostX K es (WE (wKeep K (.ref C) i j (fun _ _ _ _ => False) { D with nx := rest.ts D }) σ1) Hd1 H1 Hd1 H1 Q z → a.te (WE (wKeep K (.ref C) i j (fun _ _ _ _ => False) { D with nx := rest.ts D })) σ1 H1 Q := fun Q p => a.ok h2 _ Hd1 H1 _ _ σ1 Hd1 H1 e1.x.i (.refl e1.x.i) e1 Q p
    cases z with
    | ok d =>
      cases s with
      | some x => exact main _ fun v Hd2 H2 x2 d2 => rest.ok h _ _ _ Hd2 H2 ((e1.ext x2).set d2) D (by
          cases o with
          | nx Θ => exact fun σ3 Hd3 H3 e3 x3 => q σ3 Hd3 H3 e3 (x1.trans (x2.d.trans x3))
          | rt r => exact q)
      | none => exact main _ fun v Hd2 H2 x2 d2 => rest.ok h _ _ _ Hd2 H2 (e1.ext x2) D (by
          cases o with
          | nx Θ => exact fun σ3 Hd3 H3 e3 x3 => q σ3 Hd3 H3 e3 (x1.trans (x2.d.trans x3))
          | rt r => exact q)
    | er k y =>
      have h9 : (if k = kc ∧ j < Δ.length ∧ (flatD y).isSome = true then (tail.ev C f y ((Δ.set j .any).set i .any)).bind fun r => some (Out.rt r) else none) = some o := h
      clear h
      split at h9
      · rename_i hc
        obtain ⟨rfl, hj, hf⟩ := hc
        obtain ⟨r, h3, h8⟩ := bnd h9
        cases h8
        have post : PostE es (WE (wKeep K (.ref C) i j (fun _ _ _ _ => False) { D with nx := rest.ts D }) σ1) Hd1 H1 k y := fun C' f' u g1 hu dx H' x n2 g2 => by
          rw [hk] at g1
          cases g1
          exact ⟨true, hx, fun _ l nl => hr ▸ hear_fall N hij hj h3 e1 hu x g2 nl q, fun z => nomatch z⟩
        cases s with
        | some x => exact main _ post
        | none => exact main _ post
      · cases h9⟩
def pHear2 (pre : SS K) (i j : Nat) (hij : i ≠ j) (k1 : Nat) (C1 : Addr) (f1 : Str) (hk1 : es[k1]? = some (C1, f1)) (N1 : ErC K C1 f1) (k2 : Nat) (C2 : Addr) (f2 : Str) (hk2 : es[k2]? = some (C2, f2)) (N2 : ErC K C2 f2)
    (hx1 : PySem.W.exmAny K (.ref C1) [.ref C1, .ref C2] = some true) (hx2 : PySem.W.exmAny K (.ref C2) [.ref C1, .ref C2] = some true) (s : Option Nat) (a : ZX K es) (rest : SS K) (tail : TS2 K j) (hr : tail.ts = rest.ts) : SS K :=
  ⟨tSeq pre.ts (tSeq (fun D σ H => tTryB s a.te (wKeep2 K (.ref C1) (.ref C2) i j (fun _ _ _ _ => False) D) D σ H) rest.ts), fun Γ => (pre.ev Γ).bind fun o => match o with
    | .nx Δ => (a.ev Δ).bind fun z => match z with
      | .ok d => rest.ev (match s with | some x => Δ.set x (.dat d) | none => Δ)
      | .er k y => if (k = k1 ∨ k = k2) ∧ j < Δ.length ∧ (flatD y).isSome = true then (tail.ev (if k = k1 then C1 else C2) (if k = k1 then f1 else f2) y ((Δ.set j .any).set i .any)).bind fun r => some (.rt r) else none
    | .rt d => some (.rt d), fun {Γ o} h => by
  obtain ⟨o1, h1, h⟩ := bnd h
  intro Hd0 H0 σ Hd H e D q
  refine pre.ok h1 _ _ σ Hd H e _ ?_
  cases o1 with
  | rt d => cases h; exact q
  | nx Δ =>
    intro σ1 Hd1 H1 e1 x1
    obtain ⟨z, h2, h⟩ := bnd h
    have main : ∀ Q : VK, PostX K es (WE (wKeep2 K (.ref C1) (.ref C2) i j (fun _ _ _ _ => False) { D with nx := rest.ts D }) σ1) Hd1 H1 Hd1 H1 Q z → a.te (WE (wKeep2 K (.ref C1) (.ref C2) i j (fun _ _ _ _ => False) { D with nx := rest.ts D })) σ1 H1 Q := fun Q p => a.ok h2 _ Hd1 H1 _ _ σ1 Hd1 H1 e1.x.i (.refl e1.x.i) e1 Q p
    cases z with
    | ok d =>
      cases s with
      | some x => exact main _ fun v Hd2 H2 x2 d2 => rest.ok h _ _ _ Hd2 H2 ((e1.ext x2).set d2) D (by
          cases o with
          | nx Θ => exact fun σ3 Hd3 H3 e3 x3 => q σ3 Hd3 H3 e3 (x1.trans (x2.d.trans x3))
          | rt r => exact q)
      | none => exact main _ fun v Hd2 H2 x2 d2 => rest.ok h _ _ _ Hd2 H2 (e1.ext x2) D (by
          cases o with
          | nx Θ => exact fun σ3 Hd3 H3 e3 x3 => q σ3 Hd3 H3 e3 (x1.trans (x2.d.trans x3))
          | rt r => exact q)
    | er k y =>
      have h9 : (if (k = k1 ∨ k = k2) ∧ j < Δ.length ∧ (flatD y).isSome = true then (tail.ev (if k = k1 then C1 else C2) (if k = k1 then f1 else f2) y ((Δ.set j .any).set i .any)).bind fun r => some (Out.rt r) else none) = some o := h
      clear h
      split at h9
      · rename_i hc
        obtain ⟨hor, hj, hf⟩ := hc
        obtain ⟨r, h3, h8⟩ := bnd h9
        cases h8
        have post : PostE es (WE (wKeep2 K (.ref C1) (.ref C2) i j (fun _ _ _ _ => False) { D with nx := rest.ts D }) σ1) Hd1 H1 k y := fun C' f' u g1 hu dx H' x n2 g2 => by
          by_cases c : k = k1
          · subst c
            rw [hk1] at g1
            cases g1
            rw [if_pos rfl, if_pos rfl] at h3
            exact ⟨true, hx1, fun _ l nl => hr ▸ hear_fall N1 hij hj h3 e1 hu x g2 nl q, fun z => nomatch z⟩
          · have c2 : k = k2 := hor.resolve_left c
            subst c2
            rw [hk2] at g1
            cases g1
            rw [if_neg c, if_neg c] at h3
            exact ⟨true, hx2, fun _ l nl => hr ▸ hear_fall N2 hij hj h3 e1 hu x g2 nl q, fun z => nomatch z⟩
        cases s with
        | some x => exact main _ post
        | none => exact main _ post
      · cases h9⟩
end
end DL

namespace DL
open PySem PySem.Spec PyProof PyProof.Rows L2
open Evl (Ex)
open RZ
/-! ### dict(x), x a list or a tuple of pairs whose first parts are texts, all different -/
def rDictOf (K : PySem.W.Frag) : List V → Hp → VK → Prop := fun xs H Q => ∃ (b : Bool) (l : Addr) (ps : List (Bool × Addr × Str × V)), xs = [.ref l] ∧ SqH b H l (ps.map fun p => V.ref p.2.1) ∧ (∀ p ∈ ps, SqB K H (p.1, p.2.1, [.str p.2.2.1, p.2.2.2])) ∧ (ps.map fun p => p.2.2.1).Nodup ∧
  ∀ q, H q = none → Q (.ref q) (upd H q (.dK (ps.map fun p => (Sum.inr p.2.2.1, p.2.2.2))))
section
variable {X : Cx} {pins : List (Addr × Obj)} {σ : L2.St} {H : Hp} {s : Shared}
theorem pair_val (I : Inv X pins σ H s) : ∀ ps : List (Bool × Addr × Str × V), (∀ p ∈ ps, SqB X.K H (p.1, p.2.1, [.str p.2.2.1, p.2.2.2])) →
    ∃ vs : List (Str × Tok × Value), vs.map (·.1) = ps.map (fun p => p.2.2.1) ∧ KV (ps.map fun p => ((Sum.inr p.2.2.1 : Key), p.2.2.2)) (vs.map fun x => (Sum.inr x.1, x.2.2)) ∧ ∀ (j : Nat) (x : Str × Tok × Value), vs[j]? = some x → ∃ p, ps[j]? = some p ∧ PairAt s.heap p.2.1 (.str x.1 x.2.1) x.2.2
  | [], _ => ⟨[], rfl, .nil, fun j x h => by simp at h⟩
  | p :: ps, h => by
    obtain ⟨vs, e1, e2, e3⟩ := pair_val I ps fun q hq => h q (List.mem_cons_of_mem _ hq)
    obtain ⟨its, rv, q⟩ := sqb_is I (h p List.mem_cons_self)
    obtain ⟨u1, u2, rfl, ⟨t, rfl⟩, ru⟩ := vals2 rv
    refine ⟨(p.2.2.1, t, u2) :: vs, by rw [List.map_cons, List.map_cons, e1], .cons ⟨rfl, ru⟩ e2, fun j x hx => ?_⟩
    cases j with
    | zero =>
      cases hx
      refine ⟨p, rfl, ?_⟩
      obtain ⟨b, l, k, v⟩ := p
      cases b with
      | true => exact .inr q
      | false => exact .inl q
    | succ j =>
      obtain ⟨p', h1, h2⟩ := e3 j x (by simpa using hx)
      exact ⟨p', by simpa using h1, h2⟩
theorem refs_val {κ : Type} (f : κ → Addr) : ∀ {ps : List κ} {its : List Value}, Vals (ps.map fun p => V.ref (f p)) its → its = ps.map fun p => Value.ref (f p)
  | [], _, .nil => rfl
  | p :: ps, _, .cons r t => by
    cases r
    rw [refs_val f t]; rfl
theorem dictX (K : PySem.W.Frag) (hc : X.calm = true := by rfl) (hK : X.K = K := by rfl) : CallR X (.type "dict") (rDictOf K) := by
  subst hK
  intro pins s σ H xs us Q I r h
  obtain ⟨b, l, ps, rfl, hl, hp, nd, q⟩ := h
  obtain ⟨u, rfl, ru⟩ := vals1 r
  cases ru
  obtain ⟨vs, e1, e2, e3⟩ := pair_val I ps hp
  have len : vs.length = ps.length := by
    have := congrArg List.length e1
    rwa [List.length_map, List.length_map] at this
  have nd2 : ((vs.map fun x => ((Sum.inr x.1 : Key), x.2.2)).map (·.1)).Nodup := by
    have e : (vs.map fun x => ((Sum.inr x.1 : Key), x.2.2)).map (·.1) = (ps.map fun p => p.2.2.1).map Sum.inr := by
      rw [← e1, List.map_map, List.map_map]; rfl
    rw [e]
    unfold List.Nodup
    rw [List.pairwise_map]
    exact List.Pairwise.imp (fun h z => h (Sum.inr.inj z)) nd
  have fin : ∀ (g : Heap) (tk : Nat), Heap.DictOf (mixKind X.prog X.w) g s.heap.objs.size (merged [] (vs.map fun x => (Sum.inr x.1, x.2.2))) → vs.length ≤ sizeLine → (∀ (b : Addr) (o : Obj), ¬ b ∈ ([] : List Addr) → s.heap.get? b = some o → g.get? b = some o) → EP X pins σ Q (.ref s.heap.objs.size) { s with heap := g, toks := tk } := fun g tk hd hz hk => by
    rw [merged_nil_of_nodup _ nd2] at hd
    refine ⟨.ref s.heap.objs.size, _, I.laid (t' := tk) (o := .dK (ps.map fun p => (Sum.inr p.2.2.1, p.2.2.2))) (fun b o e => hk b o (by simp) e) (Nat.le_refl _) ⟨by rw [List.length_map, ← len]; exact hz, ?_, _, e2, hd⟩, rfl, q _ (I.hok.fresh (Nat.le_refl _))⟩
    cases c : (s.heap.objs.size == sysModules) with
    | false => rfl
    | true =>
      exact absurd (beq_iff_eq.mp c) (Nat.ne_of_gt I.big)
  have have_ : PairsHave (mixKind X.prog X.w) vs.length (PairRel (vs.map fun x => (Value.str x.1 x.2.1, x.2.2))) (vs.map fun x => (Sum.inr x.1, x.2.2)) := by
    refine ⟨List.length_map .., fun i key v hr => ?_⟩
    have hr : (vs.map fun x => (Value.str x.1 x.2.1, x.2.2))[i]? = some (key, v) := hr
    rw [List.getElem?_map] at hr
    obtain ⟨x, h1, h2⟩ := Option.map_eq_some_iff.mp hr
    cases h2
    exact ⟨Sum.inr x.1, by rw [List.getElem?_map, h1]; rfl, mixKind_str _ _ _ _⟩
  have items : ∀ its : List Value, Vals (ps.map fun p => V.ref p.2.1) its → PairItems s.heap its.toArray (fun j => (ps[j]?.map fun p => p.2.1).getD 0) (vs.map fun x => (Value.str x.1 x.2.1, x.2.2)) := fun its rv => by
    have ei := refs_val (fun p : Bool × Addr × Str × V => p.2.1) rv
    subst ei
    refine ⟨by rw [List.size_toArray, List.length_map, List.length_map, len], fun j k v hj => ?_⟩
    rw [List.getElem?_map] at hj
    obtain ⟨x, h1, h2⟩ := Option.map_eq_some_iff.mp hj
    cases h2
    obtain ⟨p, h3, h4⟩ := e3 j x h1
    show (ps.map fun p => Value.ref p.2.1).toArray[j]? = some (Value.ref ((ps[j]?.map fun p => p.2.1).getD 0)) ∧ PairAt s.heap ((ps[j]?.map fun p => p.2.1).getD 0) _ _
    rw [List.getElem?_toArray, List.getElem?_map, h3]
    exact ⟨rfl, h4⟩
  cases b with
  | true =>
    obtain ⟨hz, its, n, rv, hg⟩ := I.hok l _ hl
    have hz2 : vs.length ≤ sizeLine := by rw [List.length_map] at hz; omega
    refine call_dict_pairs (knd := mixKind X.prog X.w) (kvs := vs.map fun x => (Sum.inr x.1, x.2.2)) (PairArg.list l its.toArray _ (vs.map fun x => (Value.str x.1 x.2.1, x.2.2))) (I.ok.hd hc) ⟨⟨_, n, hg, rfl, rfl, rfl⟩, items its rv⟩ (by rw [List.length_map]; exact have_) (by rw [List.length_map]; exact hz2) fun g tk hd hk => fin g tk hd hz2 hk
  | false =>
    obtain ⟨o, hl, hd0⟩ := hl
    obtain ⟨hg, hz, its, rv, o2, hg2, hcl, n, hdt⟩ := I.hok l _ hl
    have eo : o2 = o := Option.some.inj (hg2.symm.trans hg)
    subst eo
    have hz2 : vs.length ≤ sizeLine := by rw [List.length_map] at hz; omega
    refine call_dict_pairs (knd := mixKind X.prog X.w) (kvs := vs.map fun x => (Sum.inr x.1, x.2.2)) (PairArg.tuple l its.toArray _ (vs.map fun x => (Value.str x.1 x.2.1, x.2.2))) (I.ok.hd hc) ⟨⟨_, n, hg, hcl, hd0, hdt⟩, items its rv⟩ (by rw [List.length_map]; exact have_) (by rw [List.length_map]; exact hz2) fun g tk hd hk => fin g tk hd hz2 hk
end
section
variable {K : PySem.W.Frag}
/-- pairs with texts first -/
def pairsS : List PyData → Option (List (Str × PyData))
  | [] => some []
  | d :: r => (match rowOf d with | some [.str s, v] => some (s, v) | _ => none).bind fun p => (pairsS r).bind fun ps => some (p :: ps)
theorem pairs_dt {Hd : Hp} : ∀ {vs : List V} {ds : List PyData} {kvs : List (Str × PyData)}, DtA K Hd vs ds → pairsS ds = some kvs → ∃ ps : List (Bool × Addr × Str × V), vs = ps.map (fun p => V.ref p.2.1) ∧ ps.map (fun p => p.2.2.1) = kvs.map (·.1) ∧ (∀ p ∈ ps, SqH p.1 Hd p.2.1 [.str p.2.2.1, p.2.2.2]) ∧ DtK K Hd (ps.map fun p => (Sum.inr p.2.2.1, p.2.2.2)) (kvs.map fun p => (.str p.1, p.2))
  | _, [], _, h, e => by
    cases h; cases e
    exact ⟨[], rfl, rfl, fun p h => (nomatch h), .nil⟩
  | _, d :: ds, kvs, h, e => by
    cases h with
    | @cons v vs _ _ h1 h2 =>
      obtain ⟨p, e1, e⟩ := bnd e
      obtain ⟨ps, e2, e⟩ := bnd e
      cases e
      obtain ⟨qs, rfl, f2, f3, f4⟩ := pairs_dt h2 e2
      have key : ∀ (b : Bool) (a : Addr) (ws : List V) (es : List PyData), SqH b Hd a ws → DtA K Hd ws es → (match some es with | some [.str s, v] => some (s, v) | _ => none) = some p → ∃ u, ws = [.str p.1, u] ∧ Dt K Hd u p.2 := fun b a ws es _ dd e => by
        match es, dd, e with
        | [.str s, v], .cons (.str _) (.cons g .nil), e => cases e; exact ⟨_, rfl, g⟩
      cases h1 with
      | @lst a ws es k1 k2 =>
        obtain ⟨u, rfl, g⟩ := key true a ws es k1 k2 e1
        exact ⟨(true, a, p.1, u) :: qs, rfl, by rw [List.map_cons, List.map_cons, f2], fun r hr => (List.mem_cons.mp hr).elim (fun z => by rw [z]; exact k1) (f3 r), .cons g f4⟩
      | @tup a ws es k1 k2 =>
        obtain ⟨u, rfl, g⟩ := key false a ws es k1 k2 e1
        exact ⟨(false, a, p.1, u) :: qs, rfl, by rw [List.map_cons, List.map_cons, f2], fun r hr => (List.mem_cons.mp hr).elim (fun z => by rw [z]; exact k1) (f3 r), .cons g f4⟩
      | _ => cases e1
/-- dict(x) -/
def sDictOf (a : SQ K) : SX K := ⟨tCB (rDictOf K) (tCons a.te tNil), fun Γ => (a.ev Γ).bind fun x => (pairsS x.2).bind fun kvs => if (kvs.map (·.1)).Nodup then some (.dict (kvs.map fun p => (.str p.1, p.2))) else none, fun {Γ d} h => by
  obtain ⟨⟨b, ds⟩, h1, h⟩ := bnd h
  obtain ⟨kvs, h2, h⟩ := bnd h
  split at h
  · rename_i hc
    cases h
    intro Hd0 H0 σ Hd H e Q q
    refine a.ok h1 _ _ σ Hd H e _ fun l vs Hd1 H1 x1 g1 k1 d1 => ?_
    obtain ⟨ps, rfl, f2, f3, f4⟩ := pairs_dt d1 h2
    refine ⟨b, l, ps, rfl, g1, fun p hp => ?_, by rw [f2]; exact hc, fun p hp => ?_⟩
    · have := (f3 p hp).mono x1.i
      obtain ⟨pb, pa, pk, pv⟩ := p
      cases pb with
      | true => exact SqL.of this
      | false => exact Tp.sq this
    · exact q _ (upd Hd1 p (.dK _)) _ (x1.new hp) (.dct upd_same (dtk_mono (Ex.new (Evl.fresh_back x1.i hp)) f4))
  · cases h⟩
end
end DL

namespace DL
open PySem PySem.Spec PyProof PyProof.Rows L2
open Evl (Ex)
open RZ
/-- a call of an own def that does not draw -/
def yFn {K : PySem.W.Frag} {E : XK} (n : Nat) (fn : List PyData → Option PyData) (a : YA K) : YX K := ⟨tCall (spF K n fn) [] E a.ta, fun p Γ c R => a.wp p Γ c fun xs c1 => xs.length = n ∧ ∃ r, fn xs = some r ∧ R r c1, fun {p Γ c R} h Hd0 H0 σ Hd H e Q q =>
  a.ok h _ _ σ Hd H e _ fun vs xs c1 Hd1 H1 h1 x1 e1 d1 => by
    obtain ⟨hl, r, hr, hR⟩ := h1
    refine ⟨by rw [List.append_nil, d1.length, hl], Hd1, xs, r, x1.i, by rw [List.append_nil]; exact d1, ⟨hl, hr⟩, fun v Hd2 H2 x2 d2 => ?_⟩
    exact q v r c1 Hd2 H2 hR (x1.hid2 x2.hidE) (e1.ext x2) d2⟩
/-! ### from what must hold of whatever is drawn to a promise with what comes before and behind -/
theorem spB_of {K : PySem.W.Frag} {ar m : Nat} {pre : List PyData → Prop} {dom : List PyData → PyData → Prop} {fw : List PyData → Nat → (PyData → Nat → Prop) → Prop} (h : ∀ ds c, ds.length = ar → pre ds → c + m < 2 ^ 60 → fw ds c fun r c' => dom ds r ∧ c' ≤ c + m) :
    ∀ vs H Q E, spB K ar m pre dom vs H Q E → spY K ar fw vs H Q E := fun vs H Q E ⟨hl, p, c, Hd, ds, o, ws, ev, e, k0, ho, hb, hc, hd, hp, q⟩ => by
  subst ev
  have hl2 : ds.length = ar := by
    rw [← hd.length]
    simpa using hl
  exact ⟨hl, p, c, Hd, ds, o, ws, (fun r c' => dom ds r ∧ c' ≤ c + m), rfl, e, k0, ho, hb, hd, h ds c hl2 hp hc, fun v r c' Hd' H' hr x k b dv => q v r Hd' H' hr.1 x k (let ⟨o', h1, h2⟩ := b; ⟨o', h1, h2.mono hr.2⟩) dv⟩
section
variable (K : PySem.W.Frag) {X : Cx} {a : Expr} {ta : TE} {p p2 q pos : Pos}
theorem peSrtSet (hg : Gl X "sorted") (hm : X.mg "sorted" = none) (hg2 : Gl X "set") (hm2 : X.mg "set" = none) (ha : PE X a ta) (hc : X.calm = true := by rfl)
    (na : starEach [a] X.env = (false, eval a X.env) :: starEach [] X.env := by rfl) (h : X.K = K := by rfl) : PE X (.Call (.Name "sorted" p) [.Call (.Name "set" p2) [a] [] q] [] pos) (tSrtSet K ta) := h ▸ pe_srtSet hg hm hg2 hm2 ha hc na
theorem peSrtRows (hg : Gl X "sorted") (hm : X.mg "sorted" = none) (hg2 : Gl X "set") (hm2 : X.mg "set" = none) (hu : X.A.units + 65 < cLine) (ha : PE X a ta) (hc : X.calm = true := by rfl)
    (na : starEach [a] X.env = (false, eval a X.env) :: starEach [] X.env := by rfl) (h : X.K = K := by rfl) : PE X (.Call (.Name "sorted" p) [.Call (.Name "set" p2) [a] [] q] [] pos) (tSrtRows K ta) := h ▸ pe_srtRows hg hm hg2 hm2 hu ha hc na
variable {rest : List Expr} {e : Expr} {tg : Expr} {tA : TA}
theorem piZipN (htg : TgZ tg) (hg : Gl X "zip") (hm : X.mg "zip" = none) (ha : PA X (e :: rest) tA)
    (hs : starEach (e :: rest) X.env = (false, eval e X.env) :: starEach rest X.env := by rfl) (hpl : (backTo pos (starEach rest X.env)).any (·.1) = false := by rfl) (h : X.K = K := by rfl) : PI X tg (.Call (.Name "zip" p) (e :: rest) [] pos) (iZipN K tA) := h ▸ pi_zipN htg hg hm ha hs hpl
theorem piEnumQ {tpos : Pos} {elts : List Expr} {kk : Nat} (hg : Gl X "enumerate") (hm : X.mg "enumerate" = none) (ha : PA X [e] tA) (hs : starEach [e] X.env = [(false, eval e X.env)] := by rfl) (h : X.K = K := by rfl) :
    PI X (.Tuple elts kk tpos) (.Call (.Name "enumerate" p) [e] [] pos) (iEnumQ K tA) := h ▸ pi_enumQ hg hm ha hs
end
end DL

namespace DL
open PySem PySem.Spec PyProof PyProof.Rows L2
open Evl (Ex)
open RZ
/-! ### in, not in a list or tuple of plain things; slices of texts -/
def plD : PyData → Option V
  | .none => some .non
  | .bool b => some (.bl b)
  | .int i => some (.int i)
  | .str s => some (.str s)
  | _ => none
theorem pl_dt {K : PySem.W.Frag} {Hd : Hp} {v u : V} {x : PyData} (h : Dt K Hd v x) (e : plD x = some u) : v = u ∧ flatV u = true := by
  cases h <;> cases e <;> exact ⟨rfl, rfl⟩
theorem pls_dt {K : PySem.W.Frag} {Hd : Hp} : ∀ {ds : List PyData} {vs us : List V}, DtA K Hd vs ds → mapO plD ds = some us → vs = us ∧ us.all flatV = true
  | [], _, _, h, e => by cases h; cases e; exact ⟨rfl, rfl⟩
  | d :: ds, _, us, h, e => by
    cases h with
    | cons h1 h2 =>
      obtain ⟨y, e1, e⟩ := bnd e
      obtain ⟨ys, e2, e⟩ := bnd e
      cases e
      obtain ⟨rfl, f1⟩ := pl_dt h1 e1
      obtain ⟨rfl, f2⟩ := pls_dt h2 e2
      exact ⟨rfl, by rw [List.all_cons, f1, f2]; rfl⟩
section
variable {K : PySem.W.Frag}
def oInF (neg : Bool) : F2 K (rIn K neg) := ⟨fun x y => (plD x).bind fun u => (rowOf y).bind fun ds => (mapO plD ds).bind fun us => some (.bool (if neg = true then !inV u us else inV u us)), fun {x y z} e => by
  obtain ⟨u, e1, e⟩ := bnd e
  obtain ⟨ds, e2, e⟩ := bnd e
  obtain ⟨us, e3, e⟩ := bnd e
  cases e
  intro Hd H v w ex d1 d2 Q q
  obtain ⟨rfl, f1⟩ := pl_dt d1 e1
  cases d2 with
  | lst g1 g2 =>
    cases e2
    obtain ⟨rfl, f2⟩ := pls_dt g2 e3
    exact ⟨_, _, rfl, .inl (SqL.of (ex _ _ g1)), f1, f2, q _ Hd H (.refl ex) (.bl _)⟩
  | tup g1 g2 =>
    cases e2
    obtain ⟨rfl, f2⟩ := pls_dt g2 e3
    exact ⟨_, _, rfl, .inr (g1.mono ex).sq, f1, f2, q _ Hd H (.refl ex) (.bl _)⟩
  | _ => cases e2⟩
/-- a part of a text -/
def sSlS (a : SX K) (lo hi : SO K) : SX K := ⟨tSl rSlS a.te lo.to hi.to, fun Γ => (a.ev Γ).bind fun x => (lo.ev Γ).bind fun l => (hi.ev Γ).bind fun u => match x with | .str z => if z.length ≤ 100000 then some (.str (cutS z l u)) else none | _ => none, fun {Γ d} h => by
  obtain ⟨x, h1, h⟩ := bnd h
  obtain ⟨l, h2, h⟩ := bnd h
  obtain ⟨u, h3, h⟩ := bnd h
  cases x with
  | str z =>
    have h : (if z.length ≤ 100000 then some (PyData.str (cutS z l u)) else none) = some d := h
    split at h
    · rename_i c
      cases h
      intro Hd0 H0 σ Hd H e Q q
      refine a.ok h1 _ _ σ Hd H e _ fun v Hd1 H1 x1 d1 => lo.ok h2 _ _ σ Hd1 H1 (e.ext x1) _ fun Hd2 H2 x2 => hi.ok h3 _ _ σ Hd2 H2 ((e.ext x1).ext x2) _ fun Hd3 H3 x3 => ?_
      cases d1
      exact ⟨z, rfl, fits_of c, q _ Hd3 H3 (x1.trans (x2.trans x3)) (.str _)⟩
    · cases h
  | _ => cases h⟩
end
end DL

namespace Law
open PySem PySem.Spec PyProof.Rows L2 DL
open Evl (Ex)
open RZ
def topS (i : Nat) : Stmt := PySem.Challenge.pw_oldornew_k75_how_long_looks_at_shifted_r.main.body.getD i (.Pass ⟨0, 0, 0, 0⟩)
structure Bt (mg : Str → Option Value) : Prop where
  len : mg "len" = none
  abs : mg "abs" = none
  int : mg "int" = none
  list : mg "list" = none
  tuple : mg "tuple" = none
  dict : mg "dict" = none
  bool : mg "bool" = none
  str : mg "str" = none
  range : mg "range" = none
  zip : mg "zip" = none
  enumerate : mg "enumerate" = none
  all : mg "all" = none
  isinstance : mg "isinstance" = none
  sorted : mg "sorted" = none
  min : mg "min" = none
  max : mg "max" = none
  sum : mg "sum" = none
  divmod : mg "divmod" = none
  reversed : mg "reversed" = none
  set : mg "set" = none
  LookupError : mg "LookupError" = none
section
variable {P : Program} {w : World} {K : PySem.W.Frag} {mg : Str → Option Value} {base : Heap}
abbrev s_as_tuples : Stmt := topS 3
theorem sc_as_tuples : FnScope ["value", "item"] ["value"] (defScope s_as_tuples) := ⟨rfl, rfl, rfl, by decide +kernel, rfl, by decide +kernel, by decide +kernel⟩
def sAs (K : PySem.W.Frag) (F : List PyData → Option PyData) : SS K := (pSeq (pIf (tVal (sIsi2 "list" "tuple" (sVar 0))) (pRet (sTupOf (fLc (iT (sVar 0)) [1] (gN 1 (by decide)) tYs (sCall (E := E0) 1 F (aCons (sVar 1) aNil))).q)) pNext) (pRet (sVar 0)))
def asF (K : PySem.W.Frag) : Nat → List PyData → Option PyData
  | 0 => fun _ => none
  | n + 1 => runF (K := K) ["value", "item"] (sAs K (asF K n))
theorem ok_As (X : Tx K mg "as_tuples" ["value"] s_as_tuples) (T : Bt mg) : ∀ n : Nat, Df P w K mg base n "as_tuples" ["value"] (spF K 1 (asF K n))
  | 0 => (Tx.none (n := 1) X).imp fun vs H Q E h => by
    obtain ⟨a, Hd, ds, r, b, c, ⟨_, z⟩, e⟩ := h
    exact nomatch z
  | n + 1 => by
    have D_as_tuples : Df P w K mg base n "as_tuples" ["value"] (spF K 1 (asF K n)) := ok_As X T n
    exact ok_fnE X sc_as_tuples rfl (sAs K (asF K n)) fun f cdv A outer s' H E hr => ⟨_, (pss_cons (ps_if (pt_val (pe_callB (isiTS K) (by rfl) T.isinstance boot_isinstance (pa_cons (pv 0) (pa_cons (pe_tup (pa_cons (pe_bltn (v := .ty "list") (by rfl) T.list boot_list rfl) (pa_cons (pe_bltn (v := .ty "tuple") (by rfl) T.tuple boot_tuple rfl) pa_nil))) pa_nil)))) (pss_one (ps_ret (pe_callTy (tupS K) (by rfl) T.tuple boot_tuple (pa_cons (pe_lc (own := [("item", 1)]) (g := gName 1) (tt := tYes) rfl sc_as_tuples.nd (piTup K (pv 0)) (blkOk_by (N := ["value", "item"]) (sc := defScope s_as_tuples) (by decide +kernel)) (fun _ _ _ _ _ => (pg_name (i := 1) sc_as_tuples.nd rfl (Or.inl rfl) (hf := .inr rfl))) (fun _ _ _ _ _ => pts_nil) (fun _ _ _ _ _ => (pe_def D_as_tuples hr (by omega) (pa_cons (pv 1) pa_nil)))) pa_nil)))) pss_nil) (pss_one (ps_ret (pv 0)))), rfl⟩
abbrev s_in_order : Stmt := topS 4
theorem sc_in_order : FnScope ["things"] ["things"] (defScope s_in_order) := ⟨rfl, rfl, rfl, by decide +kernel, rfl, by decide +kernel, by decide +kernel⟩
def sOrd : SS K := (pRet (sTupOf (fSortR (qVar 0)).q))
def fnOrd (K : PySem.W.Frag) : List PyData → Option PyData := runF (K := K) ["things"] (sOrd)
theorem ok_Ord (X : Tx K mg "in_order" ["things"] s_in_order) (T : Bt mg)  : Df P w K mg base 1 "in_order" ["things"] (spF K 1 (fnOrd K)) :=
  ok_fnE X sc_in_order rfl (sOrd) fun f cdv A outer s' H E hr => ⟨_, (pss_one (ps_ret (pe_callTy (tupS K) (by rfl) T.tuple boot_tuple (pa_cons (pe_callB (cr_sortedR K) (by rfl) T.sorted boot_sorted (pa_cons (pv 0) pa_nil)) pa_nil)))), rfl⟩
abbrev s_ring_right : Stmt := topS 6
theorem sc_ring_right : FnScope ["number", "long"] ["number", "long"] (defScope s_ring_right) := ⟨rfl, rfl, rfl, by decide +kernel, rfl, by decide +kernel, by decide +kernel⟩
def sRR : SS K := (pRet (sOp oGt (sVar 0) (sOp oMul (sInt 3) (sVar 1))))
def fnRR (K : PySem.W.Frag) : List PyData → Option PyData := runF (K := K) ["number", "long"] (sRR)
theorem ok_RR (X : Tx K mg "ring_right" ["number", "long"] s_ring_right) (T : Bt mg)  : Df P w K mg base 1 "ring_right" ["number", "long"] (spF K 2 (fnRR K)) :=
  ok_fnE X sc_ring_right rfl (sRR) fun f cdv A outer s' H E hr => ⟨_, (pss_one (ps_ret (pe_cmpR op_gt (pv 0) (pe_op op_mul pe_int (pv 1)) (nomark _)))), rfl⟩
abbrev s_ring_longest : Stmt := topS 7
theorem sc_ring_longest : FnScope ["number"] ["number"] (defScope s_ring_longest) := ⟨rfl, rfl, rfl, by decide +kernel, rfl, by decide +kernel, by decide +kernel⟩
def sRL : SS K := (pRet (sOp oFdivW (sOp oSub (sVar 0) (sInt 1)) (sInt 3)))
def fnRL (K : PySem.W.Frag) : List PyData → Option PyData := runF (K := K) ["number"] (sRL)
theorem ok_RL (X : Tx K mg "ring_longest" ["number"] s_ring_longest) (T : Bt mg)  : Df P w K mg base 1 "ring_longest" ["number"] (spF K 1 (fnRL K)) :=
  ok_fnE X sc_ring_longest rfl (sRL) fun f cdv A outer s' H E hr => ⟨_, (pss_one (ps_ret (pe_op op_fdivW (pe_op op_sub (pv 0) pe_int) pe_int))), rfl⟩
abbrev s_shifted_longest : Stmt := topS 13
theorem sc_shifted_longest : FnScope ["bits"] ["bits"] (defScope s_shifted_longest) := ⟨rfl, rfl, rfl, by decide +kernel, rfl, by decide +kernel, by decide +kernel⟩
def sSL : SS K := (pRet (sCall (E := E0) 1 (fnRL K) (aCons (sOp oMul (sInt 2) (sVar 0)) aNil)))
def fnSL (K : PySem.W.Frag) : List PyData → Option PyData := runF (K := K) ["bits"] (sSL)
theorem ok_SL (X : Tx K mg "shifted_longest" ["bits"] s_shifted_longest) (T : Bt mg) (D_ring_longest : Df P w K mg base 1 "ring_longest" ["number"] (spF K 1 (fnRL K))) : Df P w K mg base 2 "shifted_longest" ["bits"] (spF K 1 (fnSL K)) :=
  ok_fnE X sc_shifted_longest rfl (sSL) fun f cdv A outer s' H E hr => ⟨_, (pss_one (ps_ret (pe_def D_ring_longest hr (by omega) (pa_cons (pe_op op_mul pe_int (pv 0)) pa_nil)))), rfl⟩
abbrev s_row_of_moves : Stmt := topS 14
theorem sc_row_of_moves : FnScope ["wanted"] ["wanted"] (defScope s_row_of_moves) := ⟨rfl, rfl, rfl, by decide +kernel, rfl, by decide +kernel, by decide +kernel⟩
def sRow : SS K := (pRet (sLstZip (aCons (sVar 0) (aCons (sSlT (sVar 0) (oInt (sInt 1)) oNo) aNil))).x)
def fnRow (K : PySem.W.Frag) : List PyData → Option PyData := runF (K := K) ["wanted"] (sRow)
theorem ok_Row (X : Tx K mg "row_of_moves" ["wanted"] s_row_of_moves) (T : Bt mg)  : Df P w K mg base 1 "row_of_moves" ["wanted"] (spF K 1 (fnRow K)) :=
  ok_fnE X sc_row_of_moves rfl (sRow) fun f cdv A outer s' H E hr => ⟨_, (pss_one (ps_ret (pe_lstZip (by rfl) T.list (by rfl) T.zip (pa_cons (pv 0) (pa_cons (pe_slice (slT K) (pv 0) (po_some pe_int) po_none) pa_nil))))), rfl⟩
abbrev s_how_many_numbers : Stmt := topS 9
theorem sc_how_many_numbers : FnScope ["sizes", "many", "size"] ["sizes"] (defScope s_how_many_numbers) := ⟨rfl, rfl, rfl, by decide +kernel, rfl, by decide +kernel, by decide +kernel⟩
def sProd : SS K := (pSeq (pSet 1 (sInt 1)) (pSeq (pFor (vs := [2]) (iT (sVar 0)) (gN 2 (by decide)) (pSet 1 (sOp oMul (sVar 1) (sVar 2)))) (pRet (sVar 1))))
def fnProd (K : PySem.W.Frag) : List PyData → Option PyData := runF (K := K) ["sizes", "many", "size"] (sProd)
theorem ok_Prod (X : Tx K mg "how_many_numbers" ["sizes"] s_how_many_numbers) (T : Bt mg)  : Df P w K mg base 1 "how_many_numbers" ["sizes"] (spF K 1 (fnProd K)) :=
  ok_fnE X sc_how_many_numbers rfl (sProd) fun f cdv A outer s' H E hr => ⟨_, (pss_cons (ps_set (i := 1) sc_how_many_numbers.nd rfl (Or.inl rfl) pe_int) (pss_cons (ps_for PassesOwn.never rfl (piTup K (pv 0)) (pg_name (i := 2) sc_how_many_numbers.nd rfl (Or.inl rfl)) (pss_one (ps_set (i := 1) sc_how_many_numbers.nd rfl (Or.inl rfl) (pe_op op_mul (pv 1) (pv 2))))) (pss_one (ps_ret (pv 1))))), rfl⟩
abbrev s_turned : Stmt := topS 10
theorem sc_turned : FnScope ["value", "many", "rest"] ["value", "many", "rest"] (defScope s_turned) := ⟨rfl, rfl, rfl, by decide +kernel, rfl, by decide +kernel, by decide +kernel⟩
def sTurn : SS K := (pRet (sIf (tTruI (sOp oAnd (sVar 0) (sInt 1))) (sOp oSub (sOp oSub (sVar 1) (sInt 1)) (sVar 2)) (sVar 2)))
def fnTurn (K : PySem.W.Frag) : List PyData → Option PyData := runF (K := K) ["value", "many", "rest"] (sTurn)
theorem ok_Turn (X : Tx K mg "turned" ["value", "many", "rest"] s_turned) (T : Bt mg)  : Df P w K mg base 1 "turned" ["value", "many", "rest"] (spF K 3 (fnTurn K)) :=
  ok_fnE X sc_turned rfl (sTurn) fun f cdv A outer s' H E hr => ⟨_, (pss_one (ps_ret (pe_ifExp (pt_truth (pe_op op_and (pv 0) pe_int) (fun _ => rfl)) (pe_op op_sub (pe_op op_sub (pv 1) pe_int) (pv 2)) (pv 2)))), rfl⟩
abbrev s_reflected_word : Stmt := topS 11
theorem sc_reflected_word : FnScope ["sizes", "number", "many", "word", "rest", "size", "value"] ["sizes", "number"] (defScope s_reflected_word) := ⟨rfl, rfl, rfl, by decide +kernel, rfl, by decide +kernel, by decide +kernel⟩
def sWord {C : Addr} (R : RsF K C "number") : SSX K [(C, "number")] := (xSeq (xPure (pSet 2 (sCall (E := E0) 1 (fnProd K) (aCons (sVar 0) aNil)))) (xSeq (xIf (tNo (tTst (sChain oLe oLt (sInt 0) (sVar 1) (sVar 2)))) (xRaise 0 C "number" rfl R (sVar 1)) (xPure pNext)) (xSeq (xPure (pOwn 3 (fLst aNil))) (xSeq (xPure (pSet 4 (sVar 1))) (xSeq (xPure (pFor (vs := [5]) (iT (sVar 0)) (gN 5 (by decide)) (pSeq (pSet 2 (sOp oFdivW (sVar 2) (sVar 5))) (pSeq (pTgt (vs := [6, 4]) (gT 2 (gsCons (gN 6 (by decide)) (gsCons (gN 4 (by decide)) gsNil))) (sDivmod (sVar 4) (sVar 2))) (pSeq (pApp 3 (sVar 6)) (pSet 4 (sCall (E := E0) 3 (fnTurn K) (aCons (sVar 6) (aCons (sVar 2) (aCons (sVar 4) aNil)))))))))) (xPure (pRet (sTupOf (qVar 3)))))))))
def fnWord {C : Addr} (R : RsF K C "number") : List PyData → Option Rw := runX (K := K) ["sizes", "number", "many", "word", "rest", "size", "value"] (sWord R)
theorem ok_Word {C : Addr} (X : Tx K mg "reflected_word" ["sizes", "number"] s_reflected_word) (T : Bt mg) (N : Ne P w K mg base "NoNumber" "number" C) (D_how_many_numbers : Df P w K mg base 1 "how_many_numbers" ["sizes"] (spF K 1 (fnProd K))) (D_turned : Df P w K mg base 1 "turned" ["value", "many", "rest"] (spF K 3 (fnTurn K))) : DfX P w K mg base 3 "reflected_word" ["sizes", "number"] (spW K [(C, "number")] 2 (fnWord N.rs)) :=
  ok_fnX X sc_reflected_word rfl (sWord N.rs) fun f cdv A outer s' H E hr => ⟨_, (pss_cons (ps_set (i := 2) sc_reflected_word.nd rfl (Or.inl rfl) (pe_def D_how_many_numbers hr (by omega) (pa_cons (pv 0) pa_nil))) (pss_cons (ps_if (pt_not (pt_chain op_le op_lt pe_int (pv 1) (pv 2))) (pss_one (ps_raiseE rfl (takes_of rfl rfl rfl rfl) N hr (by omega) (pv 1))) pss_nil) (pss_cons (ps_set (i := 3) sc_reflected_word.nd rfl (Or.inl rfl) (pe_lst pa_nil)) (pss_cons (ps_set (i := 4) sc_reflected_word.nd rfl (Or.inl rfl) (pv 1)) (pss_cons (ps_for (passes_of rfl) rfl (piTup K (pv 0)) (pg_name (i := 5) sc_reflected_word.nd rfl (Or.inl rfl)) (pss_cons (ps_set (i := 2) sc_reflected_word.nd rfl (Or.inl rfl) (pe_op op_fdivW (pv 2) (pv 5))) (pss_cons (ps_asg (pe_callB divmodX (by rfl) T.divmod (by decide +kernel) (pa_cons (pv 4) (pa_cons (pv 2) pa_nil))) (pgTup K rfl (pgs_cons (pg_name (i := 6) sc_reflected_word.nd rfl (Or.inl rfl)) (pgs_cons (pg_name (i := 4) sc_reflected_word.nd rfl (Or.inl rfl)) pgs_nil)))) (pss_cons (ps_expr (pe_bm PySem.F.plainAttrs_list PySem.F.slot_list_append PySem.F.type_list_append mt_append (pv 3) (pa_cons (pv 6) pa_nil))) (pss_one (ps_set (i := 4) sc_reflected_word.nd rfl (Or.inl rfl) (pe_def D_turned hr (by omega) (pa_cons (pv 6) (pa_cons (pv 2) (pa_cons (pv 4) pa_nil)))))))))) (pss_one (ps_ret (pe_callTy (tupS K) (by rfl) T.tuple boot_tuple (pa_cons (pv 3) pa_nil))))))))), rfl⟩
abbrev s_shifted_word : Stmt := topS 12
theorem sc_shifted_word : FnScope ["bits", "number"] ["bits", "number"] (defScope s_shifted_word) := ⟨rfl, rfl, rfl, by decide +kernel, rfl, by decide +kernel, by decide +kernel⟩
def sSWord {C : Addr} (R : RsF K C "number") : SSX K [(C, "number")] := (xSeq (xIf (tNo (tTst (sChain oLe oLt (sInt 0) (sVar 1) (sOp oMul (sInt 2) (sVar 0))))) (xRaise 0 C "number" rfl R (sVar 1)) (xPure pNext)) (xSeq (xIf (tTst (sOp oLe (sVar 1) (sVar 0))) (xPure (pRet (sOp oCatT (sRepA (sTup (aCons (sInt 1) aNil)) (sVar 1)) (sRepA (sTup (aCons (sInt 0) aNil)) (sOp oSub (sVar 0) (sVar 1)))))) (xPure pNext)) (xPure (pRet (sOp oCatT (sRepA (sTup (aCons (sInt 0) aNil)) (sOp oSub (sVar 1) (sVar 0))) (sRepA (sTup (aCons (sInt 1) aNil)) (sOp oSub (sOp oMul (sInt 2) (sVar 0)) (sVar 1))))))))
def fnSWord {C : Addr} (R : RsF K C "number") : List PyData → Option Rw := runX (K := K) ["bits", "number"] (sSWord R)
theorem ok_SWord {C : Addr} (X : Tx K mg "shifted_word" ["bits", "number"] s_shifted_word) (T : Bt mg) (N : Ne P w K mg base "NoNumber" "number" C)  : DfX P w K mg base 3 "shifted_word" ["bits", "number"] (spW K [(C, "number")] 2 (fnSWord N.rs)) :=
  ok_fnX X sc_shifted_word rfl (sSWord N.rs) fun f cdv A outer s' H E hr => ⟨_, (pss_cons (ps_if (pt_not (pt_chain op_le op_lt pe_int (pv 1) (pe_op op_mul pe_int (pv 0)))) (pss_one (ps_raiseE rfl (takes_of rfl rfl rfl rfl) N hr (by omega) (pv 1))) pss_nil) (pss_cons (ps_if (pt_cmpR op_le (pv 1) (pv 0) (nomark _)) (pss_one (ps_ret (pe_op (catT K) (pe_op (repA K) (pe_tupX (pa_cons pe_int pa_nil)) (pv 1)) (pe_op (repA K) (pe_tupX (pa_cons pe_int pa_nil)) (pe_op op_sub (pv 0) (pv 1)))))) pss_nil) (pss_one (ps_ret (pe_op (catT K) (pe_op (repA K) (pe_tupX (pa_cons pe_int pa_nil)) (pe_op op_sub (pv 1) (pv 0))) (pe_op (repA K) (pe_tupX (pa_cons pe_int pa_nil)) (pe_op op_sub (pe_op op_mul pe_int (pv 0)) (pv 1)))))))), rfl⟩
abbrev s_reflected_chart : Stmt := topS 15
theorem sc_reflected_chart : FnScope ["sizes", "wanted", "states", "number", "name"] ["sizes", "wanted"] (defScope s_reflected_chart) := ⟨rfl, rfl, rfl, by decide +kernel, rfl, by decide +kernel, by decide +kernel⟩
def sRC {C : Addr} (R : RsF K C "number") : SS K := (pSeq (pSet 2 (fLc (iEnQ (aCons (sVar 1) aNil)) [3, 4] (gT 2 (gsCons (gN 3 (by decide)) (gsCons (gN 4 (by decide)) gsNil))) tYs (sTup (aCons (sVar 4) (aCons (sCall (E := E0) 2 (fun ds => rwOk (fnWord R ds)) (aCons (sVar 0) (aCons (sVar 3) aNil))) aNil)))).x) (pRet (sTup (aCons (sCall (E := E0) 1 (asF K 3) (aCons (sVar 0) aNil)) (aCons (sTupOf (qVar 2)) (aCons (sTupOf (sCall (E := E0) 1 (fnRow K) (aCons (sVar 1) aNil)).q) aNil))))))
def fnRC {C : Addr} (R : RsF K C "number") : List PyData → Option PyData := runF (K := K) ["sizes", "wanted", "states", "number", "name"] (sRC R)
theorem ok_RC {C : Addr} (R : RsF K C "number") (X : Tx K mg "reflected_chart" ["sizes", "wanted"] s_reflected_chart) (T : Bt mg) (D_reflected_word : DfX P w K mg base 3 "reflected_word" ["sizes", "number"] (spW K [(C, "number")] 2 (fnWord R))) (D_as_tuples : Df P w K mg base 3 "as_tuples" ["value"] (spF K 1 (asF K 3))) (D_row_of_moves : Df P w K mg base 1 "row_of_moves" ["wanted"] (spF K 1 (fnRow K))) : Df P w K mg base 5 "reflected_chart" ["sizes", "wanted"] (spF K 2 (fnRC R)) :=
  ok_fnE X sc_reflected_chart rfl (sRC R) fun f cdv A outer s' H E hr => ⟨_, (pss_cons (ps_setLc (i := 2) (own := [("number", 3), ("name", 4)]) (g := gTup K 2 (gCons (gName 3) (gCons (gName 4) gNil))) (tt := tYes) rfl sc_reflected_chart.nd rfl rfl (sw_true rfl rfl rfl (by decide +kernel)) (piEnumQ K (by rfl) T.enumerate (pa_cons (pv 1) pa_nil)) (blkOk_by (N := ["sizes", "wanted", "states", "number", "name"]) (sc := defScope s_reflected_chart) (by decide +kernel)) (fun _ _ _ _ _ => (pgTup K rfl (pgs_cons (pg_name (i := 3) sc_reflected_chart.nd rfl (Or.inl rfl) (hf := .inr rfl)) (pgs_cons (pg_name (i := 4) sc_reflected_chart.nd rfl (Or.inl rfl) (hf := .inr rfl)) pgs_nil)))) (fun _ _ _ _ _ => pts_nil) (fun _ _ _ _ _ => (pe_tupX (pa_cons (pv 4) (pa_cons (pe_wO D_reflected_word hr (by omega) (pa_cons (pv 0) (pa_cons (pv 3) pa_nil))) pa_nil))))) (pss_one (ps_ret (pe_tupX (pa_cons (pe_def D_as_tuples hr (by omega) (pa_cons (pv 0) pa_nil)) (pa_cons (pe_callTy (tupS K) (by rfl) T.tuple boot_tuple (pa_cons (pv 2) pa_nil)) (pa_cons (pe_callTy (tupS K) (by rfl) T.tuple boot_tuple (pa_cons (pe_def D_row_of_moves hr (by omega) (pa_cons (pv 1) pa_nil)) pa_nil)) pa_nil))))))), rfl⟩
abbrev s_shifted_chart : Stmt := topS 16
theorem sc_shifted_chart : FnScope ["bits", "wanted", "states", "number", "name"] ["bits", "wanted"] (defScope s_shifted_chart) := ⟨rfl, rfl, rfl, by decide +kernel, rfl, by decide +kernel, by decide +kernel⟩
def sSC {C : Addr} (R : RsF K C "number") : SS K := (pSeq (pSet 2 (fLc (iEnQ (aCons (sVar 1) aNil)) [3, 4] (gT 2 (gsCons (gN 3 (by decide)) (gsCons (gN 4 (by decide)) gsNil))) tYs (sTup (aCons (sVar 4) (aCons (sCall (E := E0) 2 (fun ds => rwOk (fnSWord R ds)) (aCons (sVar 0) (aCons (sVar 3) aNil))) aNil)))).x) (pRet (sTup (aCons (sRepA (sTup (aCons (sInt 2) aNil)) (sVar 0)) (aCons (sTupOf (qVar 2)) (aCons (sCall (E := E0) 1 (fnOrd K) (aCons (fLst (aStar (sCall (E := E0) 1 (fnRow K) (aCons (sVar 1) aNil)).q (aCons (sTup (aCons (sIx (qVar 1) (sInt 0)) (aCons (sIx (qVar 1) (sNeg (sInt 1))) aNil))) aNil))).x aNil)) aNil))))))
def fnSC {C : Addr} (R : RsF K C "number") : List PyData → Option PyData := runF (K := K) ["bits", "wanted", "states", "number", "name"] (sSC R)
theorem ok_SC {C : Addr} (R : RsF K C "number") (X : Tx K mg "shifted_chart" ["bits", "wanted"] s_shifted_chart) (T : Bt mg) (D_shifted_word : DfX P w K mg base 3 "shifted_word" ["bits", "number"] (spW K [(C, "number")] 2 (fnSWord R))) (D_row_of_moves : Df P w K mg base 1 "row_of_moves" ["wanted"] (spF K 1 (fnRow K))) (D_in_order : Df P w K mg base 1 "in_order" ["things"] (spF K 1 (fnOrd K))) : Df P w K mg base 5 "shifted_chart" ["bits", "wanted"] (spF K 2 (fnSC R)) :=
  ok_fnE X sc_shifted_chart rfl (sSC R) fun f cdv A outer s' H E hr => ⟨_, (pss_cons (ps_setLc (i := 2) (own := [("number", 3), ("name", 4)]) (g := gTup K 2 (gCons (gName 3) (gCons (gName 4) gNil))) (tt := tYes) rfl sc_shifted_chart.nd rfl rfl (sw_true rfl rfl rfl (by decide +kernel)) (piEnumQ K (by rfl) T.enumerate (pa_cons (pv 1) pa_nil)) (blkOk_by (N := ["bits", "wanted", "states", "number", "name"]) (sc := defScope s_shifted_chart) (by decide +kernel)) (fun _ _ _ _ _ => (pgTup K rfl (pgs_cons (pg_name (i := 3) sc_shifted_chart.nd rfl (Or.inl rfl) (hf := .inr rfl)) (pgs_cons (pg_name (i := 4) sc_shifted_chart.nd rfl (Or.inl rfl) (hf := .inr rfl)) pgs_nil)))) (fun _ _ _ _ _ => pts_nil) (fun _ _ _ _ _ => (pe_tupX (pa_cons (pv 4) (pa_cons (pe_wO D_shifted_word hr (by omega) (pa_cons (pv 0) (pa_cons (pv 3) pa_nil))) pa_nil))))) (pss_one (ps_ret (pe_tupX (pa_cons (pe_op (repA K) (pe_tupX (pa_cons pe_int pa_nil)) (pv 0)) (pa_cons (pe_callTy (tupS K) (by rfl) T.tuple boot_tuple (pa_cons (pv 2) pa_nil)) (pa_cons (pe_def D_in_order hr (by omega) (pa_cons (pe_lst (StX.pa_star (pe_def D_row_of_moves hr (by omega) (pa_cons (pv 1) pa_nil)) (pa_cons (pe_tupX (pa_cons (pe_ix (ixS K) (pv 1) pe_int (fun _ _ => rfl)) (pa_cons (pe_ix (ixS K) (pv 1) (pe_un un_neg pe_int) (fun _ _ => rfl)) pa_nil))) pa_nil))) pa_nil)) pa_nil))))))), rfl⟩
end
end Law

namespace Law
open PySem PySem.Spec PyProof.Rows L2 DL
open Evl (Ex)
open RZ
section
variable {P : Program} {w : World} {K : PySem.W.Frag} {mg : Str → Option Value} {base : Heap}
abbrev s_L_take : Stmt := topS 19
theorem sc_L_take : FnScope ["_law_tin", "_law_top_so", "_law_once", "_law_far", "_law_twice", "_law_digit_so"] ["_law_tin", "_law_top_so"] (defScope s_L_take) := ⟨rfl, rfl, rfl, by decide +kernel, rfl, by decide +kernel, by decide +kernel⟩
theorem ok_take (X : Tx K mg "_law_take" ["_law_tin", "_law_top_so"] s_L_take) (T : Bt mg) : Df P w K mg base 1 "_law_take" ["_law_tin", "_law_top_so"] spTakeW := by
  refine X.ok sc_L_take (fun vs H Q E h => ?_) (fun f cdv A outer s H vs Q E hr h => ?_)
  · obtain ⟨p, top, c, o, rfl, _⟩ := h
    rfl
  · obtain ⟨p, top, c, o, rfl, h1, h2, hp, ⟨g, m, k, rfl, b1, b2, b3, b4, b5⟩, hc, q⟩ := h
    refine ⟨_, (pss_cons (ps_if (pt_cmpR op_gt (pe_ix (ixS K) (pv 0) pe_int (fun _ _ => rfl)) pe_int (nomark _)) (pss_cons (ps_set (i := 5) sc_L_take.nd rfl (Or.inl rfl) (pe_op op_mod (pe_callTy call_int1 (by rfl) T.int boot_int (pa_cons (pe_ix (ixS K) (pv 0) pe_int (fun _ _ => rfl)) pa_nil)) (pv 1))) (pss_cons (ps_asg (pe_op op_fdivW (pe_ix (ixS K) (pv 0) pe_int (fun _ _ => rfl)) (pv 1)) (pg_sub (pv 0) pe_int set_list)) (pss_one (ps_ret (pv 5))))) pss_nil) (pss_cons (ps_asg (pe_op op_add (pe_ix (ixS K) (pv 0) pe_int (fun _ _ => rfl)) pe_int) (pg_sub (pv 0) pe_int set_list)) (pss_cons (ps_set (i := 2) sc_L_take.nd rfl (Or.inl rfl) (pe_op op_mod (pe_callTy call_int1 (by rfl) T.int boot_int (pa_cons (pe_op op_mul (pe_op op_add (pe_ix (ixS K) (pv 0) pe_int (fun _ _ => rfl)) (pe_op op_mul pe_int (pe_ix (ixS K) (pv 0) pe_int (fun _ _ => rfl)))) (pe_op op_add pe_int (pe_ix (ixS K) (pv 0) pe_int (fun _ _ => rfl)))) pa_nil)) pe_int)) (pss_cons (ps_set (i := 3) sc_L_take.nd rfl (Or.inl rfl) (pe_op op_add (pe_op op_mod (pe_callTy call_int1 (by rfl) T.int boot_int (pa_cons (pv 2) pa_nil)) pe_int) pe_int)) (pss_cons (ps_set (i := 4) sc_L_take.nd rfl (Or.inl rfl) (pe_op op_mod (pe_callTy call_int1 (by rfl) T.int boot_int (pa_cons (pe_op op_mul (pe_op op_add (pe_op op_add (pv 2) (pe_ix (ixS K) (pv 0) pe_int (fun _ _ => rfl))) (pe_op op_fdivW (pe_ix (ixS K) (pv 0) pe_int (fun _ _ => rfl)) pe_int)) (pv 3)) pa_nil)) pe_int)) (pss_one (ps_ret (pe_op op_mod (pe_callTy call_int1 (by rfl) T.int boot_int (pa_cons (pe_op op_fdivW (pe_op op_mod (pe_callTy call_int1 (by rfl) T.int boot_int (pa_cons (pe_op op_add (pe_op op_mul (pv 4) pe_int) (pv 2)) pa_nil)) pe_int) pe_int) pa_nil)) (pv 1))))))))), ?_⟩
    have ht : 0 < top := by omega
    have htz : (top : Int) ≠ 0 := by omega
    have htn : CDivW g top := cdivw300 h1 h2
    refine ix_own rfl hp rfl ⟨g, 0, rfl, rfl, _, rfl, ?_⟩
    refine ite2 (fun hg => ?_) (fun hg => ?_)
    · have hg := of_decide_eq_true hg
      refine ix_own rfl hp rfl (.inl ⟨g, rfl, _, rfl, g, top, rfl, rfl, ht, ?_⟩)
      refine ix_own rfl hp rfl ⟨_, rfl, g, top, rfl, rfl, htn, _, rfl, p, _, 0, 0, rfl, rfl, hp, rfl, _, rfl, ?_⟩
      refine q _ _ (Int.emod_nonneg _ htz) (Int.emod_lt_of_pos _ ht) ⟨_, m, k, rfl, ?_, b2, b3, b4, by omega⟩
      exact Int.ediv_nonneg b1 (by omega)
    · refine ix_own rfl hp rfl ⟨_, _, rfl, rfl, _, rfl, p, _, 2, 2, rfl, rfl, hp, rfl, ?_⟩
      refine ix_own rfl upd_same rfl (ix_own rfl upd_same rfl ⟨_, _, rfl, rfl, .inl ⟨by decide, by decide⟩, _, _, rfl, rfl, ix_own rfl upd_same rfl ⟨_, _, rfl, rfl, _, _, rfl, rfl, .inr ⟨by omega, by omega⟩, .inl ⟨_, rfl, _, _, rfl, rfl, (by show (0 : Int) < _; decide), ?_⟩⟩⟩)
      have ob := Int.emod_nonneg ((m + 48271 * (k + 1)) * (39373 + (k + 1))) (show (2147483647 : Int) ≠ 0 by decide)
      generalize ((m + 48271 * (k + 1)) * (39373 + (k + 1))) % 2147483647 = once at ob ⊢
      refine ⟨_, rfl, .inl ⟨_, rfl, _, _, rfl, rfl, (by show (0 : Int) < _; decide), _, _, rfl, rfl, ?_⟩⟩
      have f1 := Int.emod_nonneg once (show (40009 : Int) ≠ 0 by decide)
      have f2 := Int.emod_lt_of_pos once (show (0 : Int) < 40009 by decide)
      generalize once % 40009 = fm at f1 f2 ⊢
      refine ⟨_, rfl, ix_own rfl upd_same rfl ⟨_, _, rfl, rfl, ix_own rfl upd_same rfl ⟨_, _, rfl, rfl, ⟨by decide, by decide +kernel⟩, _, _, rfl, rfl, _, rfl, _, _, rfl, rfl, .inr ⟨by omega, by omega⟩, .inl ⟨_, rfl, _, _, rfl, rfl, (by show (0 : Int) < _; decide), ?_⟩⟩⟩⟩
      generalize ((once + (k + 1) + m / 1000003) * (fm + 7)) % 2147483629 = twice
      refine ⟨_, rfl, _, _, rfl, rfl, .inr ⟨by decide, by decide⟩, _, rfl, _, _, rfl, rfl, .inl ⟨_, rfl, _, _, rfl, rfl, (by show (0 : Int) < _; decide), _, _, rfl, rfl, ⟨by decide, by decide +kernel⟩, .inl ⟨_, rfl, _, rfl, _, _, rfl, rfl, ht, ?_⟩⟩⟩
      exact q _ _ (Int.emod_nonneg _ htz) (Int.emod_lt_of_pos _ ht) ⟨g, m, k + 1, rfl, b1, b2, b3, by omega, by omega⟩
abbrev s_L_box : Stmt := topS 18
theorem sc_L_box : FnScope ["_law_script", "_law_k", "_law_great_so"] ["_law_script", "_law_k"] (defScope s_L_box) := ⟨rfl, rfl, rfl, by decide +kernel, rfl, by decide +kernel, by decide +kernel⟩
/-- from a list of ints, a place in it: a new source of draws -/
def spBox : Sp := fun vs H Q _ => ∃ (a : Addr) (ns : List Int) (j : Nat), vs = [.ref a, .int (j : Int)] ∧ H a = some (.lst (ns.map V.int)) ∧ j < ns.length ∧ ns.length ≤ 1000 ∧ ∀ (p : Addr) (o : HO), H p = none → BoxO 0 o → Q (.ref p) (upd H p o)
theorem ok_box (X : Tx K mg "_law_box" ["_law_script", "_law_k"] s_L_box) (T : Bt mg) : Df P w K mg base 1 "_law_box" ["_law_script", "_law_k"] spBox := by
  refine X.ok sc_L_box (fun vs H Q E h => ?_) (fun f cdv A outer s H vs Q E hr h => ?_)
  · obtain ⟨a, ns, j, rfl, _⟩ := h
    rfl
  · obtain ⟨a, ns, j, rfl, ha, hj, hl, q⟩ := h
    refine ⟨_, (pss_cons (ps_set (i := 2) sc_L_box.nd rfl (Or.inl rfl) (pe_ifExp (pt_cmpR op_lt (pv 1) (pe_callB (lenS K) (by rfl) T.len PySem.boot_len (pa_cons (pv 0) pa_nil)) (nomark _)) (pe_ix (ixS K) (pv 0) (pv 1) (fun _ _ => rfl)) pe_int)) (pss_one (ps_ret (pe_lst (pa_cons (pe_op op_mul (pe_callB call_abs (by rfl) T.abs boot_abs (pa_cons (pv 2) pa_nil)) (pe_callTy call_int1 (by rfl) T.int boot_int (pa_cons (pe_cmpR op_ge (pe_callB call_abs (by rfl) T.abs boot_abs (pa_cons (pv 2) pa_nil)) (pe_op op_pow pe_int pe_int) (nomark _)) pa_nil))) (pa_cons (pe_op op_add (pe_op op_add (pe_op op_mod (pe_callTy call_int1 (by rfl) T.int boot_int (pa_cons (pv 2) pa_nil)) pe_int) (pe_op op_mul pe_int (pv 1))) pe_int) (pa_cons pe_int pa_nil))))))), ?_⟩
    have hlen : (ns.map V.int).length = ns.length := List.length_map _
    have hg : (ns.map V.int)[j]? = some (.int ns[j]) := by
      rw [List.getElem?_map, List.getElem?_eq_getElem hj]
      rfl
    refine ⟨_, rfl, _, rfl, a, _, rfl, .inl (SqL.of ha), _, _, rfl, rfl, _, rfl, ?_⟩
    rw [decide_eq_true (by omega)]
    refine iteT ⟨_, rfl, _, rfl, .inl ⟨a, _, _, _, rfl, rfl, SqL.of ha, atI_nat hg, ?_⟩⟩
    generalize ns[j] = x
    refine ⟨_, rfl, _, rfl, _, rfl, _, rfl, _, _, rfl, rfl, ⟨by decide, by decide, by decide⟩, _, _, rfl, rfl, .inr ⟨_, rfl, ?_⟩⟩
    generalize hd : decide (((10 : Int) ^ (18 : Int).toNat) ≤ (if x < 0 then -x else x)) = b
    have hb : (-(2 ^ 64) < (if b = true then (1 : Int) else 0) ∧ (if b = true then (1 : Int) else 0) < 2 ^ 64) ∧ 0 ≤ (if b = true then (1 : Int) else 0) := by
      cases b
      · exact ⟨⟨by decide, by decide⟩, by decide⟩
      · exact ⟨⟨by decide, by decide⟩, by decide⟩
    generalize (if b = true then (1 : Int) else 0) = y at hb ⊢
    refine ⟨_, _, rfl, rfl, .inr hb.1, _, rfl, .inl ⟨_, rfl, _, _, rfl, rfl, (by show (0 : Int) < _; decide), _, rfl, _, _, rfl, rfl, .inl ⟨by decide, by decide⟩, _, _, rfl, rfl, _, _, rfl, rfl, (by show 3 ≤ sizeLine; decide), fun p hp => q p _ hp ?_⟩⟩
    have m0 := Int.emod_nonneg x (show (2305843009213693951 : Int) ≠ 0 by decide)
    have m1 := Int.emod_lt_of_pos x (show (0 : Int) < 2305843009213693951 by decide)
    refine ⟨_, _, 0, rfl, Int.mul_nonneg ?_ hb.2, by omega, by omega, Int.le_refl _, Int.le_refl _⟩
    split <;> omega
abbrev s_L_cells : Stmt := topS 20
theorem sc_L_cells : FnScope ["_law_script", "_law_most", "_law_cells_here", "_law_k", "_law_great_so", "_law_at_so"] ["_law_script", "_law_most"] (defScope s_L_cells) := ⟨rfl, rfl, rfl, by decide +kernel, rfl, by decide +kernel, by decide +kernel⟩
/-- the first numbers of the script, with the later ones added to them -/
def spCells (K : PySem.W.Frag) : Sp := fun vs H Q _ => ∃ (a : Addr) (ns : List Int) (m : Nat), vs = [.ref a, .int (m : Int)] ∧ SqL K H a (ns.map V.int) ∧ ns.length ≤ 63 ∧ 1 ≤ m ∧ m ≤ 10 ∧
  ∀ (p : Addr) (ms : List Int) (H' : Hp), H p = none → Ex H H' → 1 ≤ ms.length → ms.length ≤ m → H' p = some (.lst (ms.map V.int)) → Q (.ref p) H'
theorem ok_cells (X : Tx K mg "_law_cells" ["_law_script", "_law_most"] s_L_cells) (T : Bt mg) : Df P w K mg base 1 "_law_cells" ["_law_script", "_law_most"] (spCells K) := by
  refine X.ok sc_L_cells (fun vs H Q E h => ?_) (fun f cdv A outer s H vs Q E hr h => ?_)
  · obtain ⟨a, ns, m, rfl, _⟩ := h
    rfl
  · obtain ⟨a, ns, m, rfl, ha, hn, hm, hm2, q⟩ := h
    refine ⟨_, (pss_cons (ps_set (i := 2) sc_L_cells.nd rfl (Or.inl rfl) (pe_orT (pe_callTy (listS K) (by rfl) T.list boot_list (pa_cons (pe_slice (slL K) (pv 0) po_none (po_some (pv 1))) pa_nil)) (pe_one (pe_lst (pa_cons pe_int pa_nil))))) (pss_cons (ps_for PassesOwn.never rfl (piEnum K (by rfl) T.enumerate (pa_cons (pe_slice (slL K) (pv 0) (po_some (pv 1)) (po_some pe_int)) pa_nil)) (pgTup K rfl (pgs_cons (pg_name (i := 3) sc_L_cells.nd rfl (Or.inl rfl)) (pgs_cons (pg_name (i := 4) sc_L_cells.nd rfl (Or.inl rfl)) pgs_nil))) (pss_cons (ps_set (i := 5) sc_L_cells.nd rfl (Or.inl rfl) (pe_op op_mod (pe_callTy call_int1 (by rfl) T.int boot_int (pa_cons (pv 3) pa_nil)) (pv 1))) (pss_one (ps_asg (pe_op op_add (pe_ix (ixS K) (pv 2) (pv 5) (fun _ _ => rfl)) (pe_op op_mul (pv 4) (pe_op op_add (pv 3) pe_int))) (pg_sub (pv 2) (pv 5) set_list))))) (pss_one (ps_ret (pv 2))))), ?_⟩
    refine cells_first (ns := ns) (m := m) rfl rfl ha hm fun p ms H2 hp0 e2 hp hms hms2 hfull => ?_
    refine ⟨_, rfl, _, rfl, m, rfl, 63, rfl, a, _, rfl, Evl.ex_l e2 ha, fun s hs => ⟨s, _, rfl, SqL.of upd_same, ?_⟩⟩
    rw [show (63 : Int) = ((63 : Nat) : Int) from rfl, cut_from _ _ _ (by rw [List.length_map]; exact hn), ← List.map_drop]
    have nps : p ≠ s := fun z => by
      rw [z, hs] at hp
      cases hp
    generalize hr : ns.drop m = rs
    have hrl : rs.length = ns.length - m := by rw [← hr, List.length_drop]
    refine ⟨fun i n σ' H' => n = rs.length - i ∧ i ≤ rs.length ∧ ∃ (ns' : List Int) (v3 v4 v5 : Option V), σ' = [some (.ref a), some (.int m), some (.ref p), v3, v4, v5] ∧ Ex H H' ∧ H' p = some (.lst (ns'.map V.int)) ∧ ns'.length = ms.length ∧ H' s = some (.lst (rs.map V.int)),
      ⟨rs.length, rfl, Nat.zero_le _, ms, none, none, none, rfl, e2.trans (Ex.new hs), by rw [upd_ne nps]; exact hp, rfl, upd_same⟩, ?_⟩
    rintro i n σ' H' ⟨rfl, hi, ns', v3, v4, v5, rfl, e3, hp3, hl3, hs3⟩
    have hsl := SqL.of (K := K) hs3
    by_cases hlt : i < rs.length
    · have hg : (rs.map V.int)[i]? = some (.int rs[i]) := by
        rw [List.getElem?_map, List.getElem?_eq_getElem hlt]
        rfl
      refine .inr ⟨⟨_, _, hsl, hg⟩, fun σ'' H'' => ∃ (ns' : List Int) (v3 v4 v5 : Option V), σ'' = [some (.ref a), some (.int m), some (.ref p), v3, v4, v5] ∧ Ex H H'' ∧ H'' p = some (.lst (ns'.map V.int)) ∧ ns'.length = ms.length ∧ H'' s = some (.lst (rs.map V.int)),
        fun σ'' H'' w => ⟨rs.length - (i + 1), by omega, rfl, hlt, w⟩, ?_⟩
      rintro x H'' ⟨T1, y, rfl, nT, rfl, hy⟩
      have ey := hy _ hsl
      rw [hg] at ey
      cases ey
      have hm3 : ns'.length = m := by rw [hl3]; exact hfull (by omega)
      have hp4 : (upd H' T1 (.tup [.int (i : Nat), .int rs[i]])) p = some (.lst (ns'.map V.int)) := by
        rw [upd_ne (ne_of_none hp3 nT)]
        exact hp3
      have hs4 : (upd H' T1 (.tup [.int (i : Nat), .int rs[i]])) s = some (.lst (rs.map V.int)) := by
        rw [upd_ne (ne_of_none hs3 nT)]
        exact hs3
      have e4 : Ex H (upd H' T1 (.tup [.int (i : Nat), .int rs[i]])) := e3.trans (Ex.new nT)
      have hj : i % m < ns'.length := by rw [hm3]; exact Nat.mod_lt _ hm
      have hat : (ns'.map V.int)[i % m]? = some (.int ns'[i % m]) := by
        rw [List.getElem?_map, List.getElem?_eq_getElem hj]
        rfl
      refine ⟨T1, _, rfl, SqT.of upd_same, rfl, _, _, rfl, _, _, rfl, rfl, ?_⟩
      refine ⟨_, rfl, .inl ⟨_, rfl, _, rfl, _, _, rfl, rfl, (by show (0 : Int) < (m : Int); omega), ?_⟩⟩
      have ec : ((i : Nat) : Int) % (m : Int) = ((i % m : Nat) : Int) := (Int.natCast_emod i m).symm
      have hat' : atI (ns'.map V.int) (((i : Nat) : Int) % (m : Int)) = some (.int ns'[i % m]) := by
        rw [ec]
        exact atI_nat hat
      have hix : ixN (ns'.map V.int).length (((i : Nat) : Int) % (m : Int)) = some (i % m) := by
        rw [ec]
        unfold ixN
        rw [List.length_map, if_pos (by omega), if_pos (by omega), Int.toNat_natCast]
      refine ⟨_, rfl, _, rfl, .inl ⟨p, _, _, _, rfl, rfl, SqL.of hp4, hat', _, rfl, _, rfl, _, _, rfl, rfl, _, _, rfl, rfl, .inr ⟨by omega, by omega⟩, _, _, rfl, rfl, _, rfl, _, rfl, p, _, _, i % m, rfl, rfl, hp4, hix, ?_⟩⟩
      · refine ⟨ns'.set (i % m) (ns'[i % m] + rs[i] * ((i : Int) + 2)), _, _, _, rfl, e4.mut hp0, ?_, by rw [List.length_set, hl3], ?_⟩
        · rw [upd_same, List.map_set]
        · rw [upd_ne nps.symm]
          exact hs4
    · refine .inl ⟨⟨_, hsl, by rw [List.length_map]; omega⟩, _, rfl, q p ns' H' hp0 e3 (by omega) (by omega) hp3⟩
abbrev s_L_same : Stmt := topS 21
theorem sc_L_same : FnScope ["_law_got", "_law_due", "_law_lot_so", "_law_mine", "_law_its"] ["_law_got", "_law_due"] (defScope s_L_same) := ⟨rfl, rfl, rfl, by decide +kernel, rfl, by decide +kernel, by decide +kernel⟩
theorem ok_same (X : Tx K mg "_law_same" ["_law_got", "_law_due"] s_L_same) (T : Bt mg) : ∀ n : Nat, Df P w K mg base n "_law_same" ["_law_got", "_law_due"] (spD K 2 (domSame n))
  | 0 => (Tx.none (n := 2) X).imp fun vs H Q E h => by
    obtain ⟨a, Hd, ds, r, b, c, ⟨_, _, _, z, _⟩, e⟩ := h
    exact absurd z (Nat.not_lt_zero _)
  | n + 1 => by
    have D_L_same : Df P w K mg base n "_law_same" ["_law_got", "_law_due"] (spD K 2 (domSame n)) := ok_same X T n
    refine X.ok sc_L_same (fun vs H Q E h => h.1.trans rfl) (fun f cdv A outer s H vs Q E hr h => ?_)
    obtain ⟨hl, Hd, ds, r, e, hd, ⟨g, d, rfl, hn, sg, sd, rfl⟩, q⟩ := h
    refine ⟨_, (pss_cons (ps_if (pt_val (pe_callB (isiTS K) (by rfl) T.isinstance boot_isinstance (pa_cons (pv 1) (pa_cons (pe_tup (pa_cons (pe_bltn (v := .ty "list") (by rfl) T.list boot_list rfl) (pa_cons (pe_bltn (v := .ty "tuple") (by rfl) T.tuple boot_tuple rfl) pa_nil))) pa_nil)))) (pss_cons (ps_if (PW.pt (pw_or (pt_cmpR (neS K hr.units) (pe_callB (isiS K) (by rfl) T.isinstance boot_isinstance (pa_cons (pv 0) (pa_cons (pe_bltn (v := .ty "list") (by rfl) T.list boot_list rfl) pa_nil))) (pe_callB (isiS K) (by rfl) T.isinstance boot_isinstance (pa_cons (pv 1) (pa_cons (pe_bltn (v := .ty "list") (by rfl) T.list boot_list rfl) pa_nil))) (nomark _)) (pw_or1 (pt_cmpR (neS K hr.units) (pe_callB (isiS K) (by rfl) T.isinstance boot_isinstance (pa_cons (pv 0) (pa_cons (pe_bltn (v := .ty "tuple") (by rfl) T.tuple boot_tuple rfl) pa_nil))) (pe_callB (isiS K) (by rfl) T.isinstance boot_isinstance (pa_cons (pv 1) (pa_cons (pe_bltn (v := .ty "tuple") (by rfl) T.tuple boot_tuple rfl) pa_nil))) (nomark _))))) (pss_one (ps_ret pe_bl)) pss_nil) (pss_one (ps_ret (pe_and (pe_cmpR (eqS K hr.units) (pe_callB (lenS K) (by rfl) T.len PySem.boot_len (pa_cons (pv 0) pa_nil)) (pe_callB (lenS K) (by rfl) T.len PySem.boot_len (pa_cons (pv 1) pa_nil)) (nomark _)) (pe_one (pe_callB (allS K) (by rfl) T.all (by decide +kernel) (pa_cons (pe_lc (own := [("_law_mine", 3), ("_law_its", 4)]) (g := gTup K 2 (gCons (gName 3) (gCons (gName 4) gNil))) (tt := tYes) rfl sc_L_same.nd (piZipN K (.inr ⟨_, _, _, rfl⟩) (by rfl) T.zip (pa_cons (pv 0) (pa_cons (pv 1) pa_nil))) (blkOk_by (N := ["_law_got", "_law_due", "_law_lot_so", "_law_mine", "_law_its"]) (sc := defScope s_L_same) (by decide +kernel)) (fun _ _ _ _ _ => (pgTup K rfl (pgs_cons (pg_name (i := 3) sc_L_same.nd rfl (Or.inl rfl) (hf := .inr rfl)) (pgs_cons (pg_name (i := 4) sc_L_same.nd rfl (Or.inl rfl) (hf := .inr rfl)) pgs_nil)))) (fun _ _ _ _ _ => pts_nil) (fun _ _ _ _ _ => (pe_def D_L_same hr (by omega) (pa_cons (pv 3) (pa_cons (pv 4) pa_nil))))) pa_nil))))))) pss_nil) (pss_cons (ps_if (pt_val (pe_callB (isiS K) (by rfl) T.isinstance boot_isinstance (pa_cons (pv 1) (pa_cons (pe_bltn (v := .ty "dict") (by rfl) T.dict boot_dict rfl) pa_nil)))) pss_never pss_nil) (pss_cons (ps_if (PW.pt (pw_or (pt_cmpR op_isN (pv 1) pe_non (nomark _)) (pw_or1 (pt_val (pe_callB (isiTS K) (by rfl) T.isinstance boot_isinstance (pa_cons (pv 1) (pa_cons (pe_tup (pa_cons (pe_bltn (v := .ty "bool") (by rfl) T.bool boot_bool rfl) (pa_cons (pe_bltn (v := .ty "str") (by rfl) T.str boot_str rfl) pa_nil))) pa_nil))))))) (pss_one (ps_ret (pe_and (pe_cmpR (eqS K hr.units) (pv 0) (pv 1) (nomark _)) (pe_and (pe_cmpR (eqS K hr.units) (pe_callB (isiS K) (by rfl) T.isinstance boot_isinstance (pa_cons (pv 0) (pa_cons (pe_bltn (v := .ty "bool") (by rfl) T.bool boot_bool rfl) pa_nil))) (pe_callB (isiS K) (by rfl) T.isinstance boot_isinstance (pa_cons (pv 1) (pa_cons (pe_bltn (v := .ty "bool") (by rfl) T.bool boot_bool rfl) pa_nil))) (nomark _)) (pe_one (pe_cmpR (eqS K hr.units) (pe_cmpR op_isN (pv 0) pe_non (nomark _)) (pe_cmpR op_isN (pv 1) pe_non (nomark _)) (nomark _))))))) pss_nil) (pss_one (ps_ret (pe_and (pe_callB (isiS K) (by rfl) T.isinstance boot_isinstance (pa_cons (pv 0) (pa_cons (pe_bltn (v := .ty "int") (by rfl) T.int boot_int rfl) pa_nil))) (pe_and (pe_not (pe_callB (isiS K) (by rfl) T.isinstance boot_isinstance (pa_cons (pv 0) (pa_cons (pe_bltn (v := .ty "bool") (by rfl) T.bool boot_bool rfl) pa_nil)))) (pe_one (pe_cmpR (eqS K hr.units) (pv 0) (pv 1) (nomark _)))))))))), ?_⟩
    refine run_d e hd ?_ q
    refine sd_ifR (b := is_list d || is_tuple d) (et_val (ed_isi2 (ed_var rfl) (kb_list d) (kb_tuple d))) (fun hb => ?_) (fun hb => ?_) (fun _ z => nomatch z)
    · refine sd_ifR (b := (is_list g != is_list d) || (is_tuple g != is_tuple d)) (et_or (et_test (ed_op (ed_isi (ed_var rfl) (kb_list g)) (ed_isi (ed_var rfl) (kb_list d)) rd_neB)) fun _ => et_test (ed_op (ed_isi (ed_var rfl) (kb_tuple g)) (ed_isi (ed_var rfl) (kb_tuple d)) rd_neB)) (fun hb1 => ?_) (fun hb1 => ?_) (fun _ z => nomatch z)
      · refine sd_ret (ed_bl.is ?_)
        cases d <;> first | (simp [is_list, is_tuple] at hb; done) | (cases g <;> first | rfl | (simp [is_list, is_tuple] at hb1; done))
      · cases d with
        | list ys =>
          cases g with
          | list xs =>
            have fx := fine_list sg
            have fy := fine_list sd
            refine sd_ret ((ed_and (b := decide (xs.length = ys.length)) ((ed_op (ed_lenR (ed_var rfl).rd) (ed_lenR (ed_var rfl).rd) rd_eqI).is (congrArg PyData.bool (decide_eq_decide.mpr (by omega)))) fun _ => ed_all (er_same (ei_zip2 (ea_cons (ed_var rfl) (ea_cons (ed_var rfl) ea_nil)) rfl rfl) fx.1 (by decide) (by decide) (by decide) (by show 3 < 5; decide) (by show 4 < 5; decide) fun x y hx hy => ?_)).is ?_)
            · exact ⟨x, y, rfl, by have := (fy.2 y hy).2; omega, (fx.2 x hx).1, (fy.2 y hy).1, rfl⟩
            · show PyData.bool _ = PyData.bool (sameA xs ys)
              rw [sameA_zip]
          | _ => exact nomatch hb1
        | tuple ys =>
          cases g with
          | tuple xs =>
            have fx := fine_tup sg
            have fy := fine_tup sd
            refine sd_ret ((ed_and (b := decide (xs.length = ys.length)) ((ed_op (ed_lenT (ed_var rfl)) (ed_lenT (ed_var rfl)) rd_eqI).is (congrArg PyData.bool (decide_eq_decide.mpr (by omega)))) fun _ => ed_all (er_same (ei_zip2 (ea_cons (ed_var rfl) (ea_cons (ed_var rfl) ea_nil)) rfl rfl) fx.1 (by decide) (by decide) (by decide) (by show 3 < 5; decide) (by show 4 < 5; decide) fun x y hx hy => ?_)).is ?_)
            · exact ⟨x, y, rfl, by have := (fy.2 y hy).2; omega, (fx.2 x hx).1, (fy.2 y hy).1, rfl⟩
            · show PyData.bool _ = PyData.bool (sameA xs ys)
              rw [sameA_zip]
          | _ => exact nomatch hb1
        | _ => exact nomatch hb
    · have hdict : is_dict d = false := by
        cases d <;> first | rfl | exact nomatch fine_shaped sd
      refine sd_ifR (b := is_dict d) (et_val (ed_isi (ed_var rfl) (kb_dict d))) (fun hb2 => ?_) (fun hb2 => ?_) (fun _ z => nomatch z)
      · rw [hdict] at hb2
        cases hb2
      · refine sd_ifR (b := is_non d || (is_bool d || is_str d)) (et_or (et_test (ed_op (ed_var rfl) ed_non rd_isNon)) fun _ => et_val (ed_isi2 (ed_var rfl) (kb_bool d) (kb_str d))) (fun hb3 => ?_) (fun hb3 => ?_) (fun _ z => nomatch z)
        · refine sd_ret ((ed_and (ed_op (ed_var rfl) (ed_var rfl) (rd_eqD (fine_shaped sg) (fine_shaped sd))) fun _ => ed_and (ed_op (ed_isi (ed_var rfl) (kb_bool g)) (ed_isi (ed_var rfl) (kb_bool d)) rd_eqB) fun _ => ed_op (ed_op (ed_var rfl) ed_non rd_isNon) (ed_op (ed_var rfl) ed_non rd_isNon) rd_eqB).is ?_)
          cases d <;> first | (simp [is_non, DL.is_bool, is_str] at hb3; done) | (simp [is_list, is_tuple] at hb; done) | (cases g <;> simp [PyData.eqv, DL.is_bool, is_non, sameD])
        · refine sd_ret ((ed_and (ed_isi (ed_var rfl) (kb_int g)) fun _ => ed_and (ed_not (ed_isi (ed_var rfl) (kb_bool g))) fun _ => ed_op (ed_var rfl) (ed_var rfl) (rd_eqD (fine_shaped sg) (fine_shaped sd))).is ?_)
          cases d <;> first | (simp [is_non, DL.is_bool, is_str] at hb3; done) | (simp [is_list, is_tuple] at hb; done) | (simp [is_dict] at hdict; done) | (cases g <;> simp [PyData.eqv, DL.is_bool, is_int, sameD])
end
end Law

namespace Law
open PySem PySem.Spec PyProof.Rows L2 DL
open Evl (Ex)
open RZ
section
variable {P : Program} {w : World} {K : PySem.W.Frag} {mg : Str → Option Value} {base : Heap}
abbrev s_L_words : Stmt := topS 22
theorem sc_L_words : FnScope ["_law_wide", "_law_found", "_law_high_so", "_law_rows_so", "_law_spot", "_law_much"] ["_law_wide"] (defScope s_L_words) := ⟨rfl, rfl, rfl, by decide +kernel, rfl, by decide +kernel, by decide +kernel⟩
def sWs : SS K := (pSeq (pSet 1 (fLst (aCons (sTup aNil) aNil)).x) (pSeq (pFor (vs := [2]) (iT (sVar 0)) (gN 2 (by decide)) (pSeq (pSet 3 (fLst aNil).x) (pSeq (pFor (vs := [4]) (iL (sVar 1)) (gN 4 (by decide)) (pSet 3 (fCat (qVar 3) (fLc (iRg (aCons (sVar 2) aNil)) [5] (gN 5 (by decide)) tYs (sOp oCatT (sVar 4) (sTup (aCons (sVar 5) aNil)))).q).x)) (pSet 1 (sVar 3))))) (pRet (sVar 1))))
def fnWs (K : PySem.W.Frag) : List PyData → Option PyData := runF (K := K) ["_law_wide", "_law_found", "_law_high_so", "_law_rows_so", "_law_spot", "_law_much"] (sWs)
theorem ok_Ws (X : Tx K mg "_law_words" ["_law_wide"] s_L_words) (T : Bt mg)  : Df P w K mg base 1 "_law_words" ["_law_wide"] (spF K 1 (fnWs K)) :=
  ok_fnE X sc_L_words rfl (sWs) fun f cdv A outer s' H E hr => ⟨_, (pss_cons (ps_set (i := 1) sc_L_words.nd rfl (Or.inl rfl) (pe_lst (pa_cons (pe_tupX pa_nil) pa_nil))) (pss_cons (ps_for PassesOwn.never rfl (piTup K (pv 0)) (pg_name (i := 2) sc_L_words.nd rfl (Or.inl rfl)) (pss_cons (ps_set (i := 3) sc_L_words.nd rfl (Or.inl rfl) (pe_lst pa_nil)) (pss_cons (ps_for PassesOwn.never rfl (piList K (pv 1)) (pg_name (i := 4) sc_L_words.nd rfl (Or.inr rfl)) (pss_one (ps_set (i := 3) sc_L_words.nd rfl (Or.inl rfl) (pe_op op_cat (pv 3) (pe_lc (own := [("_law_much", 5)]) (g := gName 5) (tt := tYes) rfl sc_L_words.nd (pi_range1 (by rfl) T.range (pa_cons (pv 2) pa_nil)) (blkOk_by (N := ["_law_wide", "_law_found", "_law_high_so", "_law_rows_so", "_law_spot", "_law_much"]) (sc := defScope s_L_words) (by decide +kernel)) (fun _ _ _ _ _ => (pg_name (i := 5) sc_L_words.nd rfl (Or.inl rfl) (hf := .inr rfl))) (fun _ _ _ _ _ => pts_nil) (fun _ _ _ _ _ => (pe_op (catT K) (pv 4) (pe_tupX (pa_cons (pv 5) pa_nil))))))))) (pss_one (ps_set (i := 1) sc_L_words.nd rfl (Or.inl rfl) (pv 3)))))) (pss_one (ps_ret (pv 1))))), rfl⟩
abbrev s_L_near : Stmt := topS 23
theorem sc_L_near : FnScope ["_law_web", "_law_tag", "_law_found", "_law_one_so", "_law_two_so"] ["_law_web", "_law_tag"] (defScope s_L_near) := ⟨rfl, rfl, rfl, by decide +kernel, rfl, by decide +kernel, by decide +kernel⟩
def sNear : SS K := (pSeq (pSet 2 (fLc (iT (sIx (qVar 0) (sInt 2))) [3, 4] (gT 2 (gsCons (gN 3 (by decide)) (gsCons (gN 4 (by decide)) gsNil))) (tTst (sOp oEq (sVar 3) (sVar 1))) (sVar 4)).x) (pRet (fSortS (fCat (qVar 2) (fLc (iT (sIx (qVar 0) (sInt 2))) [3, 4] (gT 2 (gsCons (gN 3 (by decide)) (gsCons (gN 4 (by decide)) gsNil))) (tTst (sOp oEq (sVar 4) (sVar 1))) (sVar 3)).q).q).x))
def fnNear (K : PySem.W.Frag) : List PyData → Option PyData := runF (K := K) ["_law_web", "_law_tag", "_law_found", "_law_one_so", "_law_two_so"] (sNear)
theorem ok_Near (X : Tx K mg "_law_near" ["_law_web", "_law_tag"] s_L_near) (T : Bt mg)  : Df P w K mg base 1 "_law_near" ["_law_web", "_law_tag"] (spF K 2 (fnNear K)) :=
  ok_fnE X sc_L_near rfl (sNear) fun f cdv A outer s' H E hr => ⟨_, (pss_cons (ps_setLc (i := 2) (own := [("_law_one_so", 3), ("_law_two_so", 4)]) (g := gTup K 2 (gCons (gName 3) (gCons (gName 4) gNil))) (tt := _) rfl sc_L_near.nd rfl rfl (sw_true rfl rfl rfl (by decide +kernel)) (piTup K (pe_ix (ixS K) (pv 0) pe_int (fun _ _ => rfl))) (blkOk_by (N := ["_law_web", "_law_tag", "_law_found", "_law_one_so", "_law_two_so"]) (sc := defScope s_L_near) (by decide +kernel)) (fun _ _ _ _ _ => (pgTup K rfl (pgs_cons (pg_name (i := 3) sc_L_near.nd rfl (Or.inl rfl) (hf := .inr rfl)) (pgs_cons (pg_name (i := 4) sc_L_near.nd rfl (Or.inl rfl) (hf := .inr rfl)) pgs_nil)))) (fun _ _ _ _ _ => (pts_one (pt_cmpR (eqS K hr.units) (pv 3) (pv 1) (nomark _)))) (fun _ _ _ _ _ => (pv 4))) (pss_one (ps_ret (pe_callB (sortedSS K) (by rfl) T.sorted boot_sorted (pa_cons (pe_op op_cat (pv 2) (pe_lc (own := [("_law_one_so", 3), ("_law_two_so", 4)]) (g := gTup K 2 (gCons (gName 3) (gCons (gName 4) gNil))) (tt := _) rfl sc_L_near.nd (piTup K (pe_ix (ixS K) (pv 0) pe_int (fun _ _ => rfl))) (blkOk_by (N := ["_law_web", "_law_tag", "_law_found", "_law_one_so", "_law_two_so"]) (sc := defScope s_L_near) (by decide +kernel)) (fun _ _ _ _ _ => (pgTup K rfl (pgs_cons (pg_name (i := 3) sc_L_near.nd rfl (Or.inl rfl) (hf := .inr rfl)) (pgs_cons (pg_name (i := 4) sc_L_near.nd rfl (Or.inl rfl) (hf := .inr rfl)) pgs_nil)))) (fun _ _ _ _ _ => (pts_one (pt_cmpR (eqS K hr.units) (pv 4) (pv 1) (nomark _)))) (fun _ _ _ _ _ => (pv 3)))) pa_nil))))), rfl⟩
abbrev s_L_events : Stmt := topS 24
theorem sc_L_events : FnScope ["_law_web", "_law_far", "_law_rows_so", "_law_found", "_law_lap", "_law_later", "_law_line_so", "_law_tag", "_law_spot", "_law_mate"] ["_law_web", "_law_far"] (defScope s_L_events) := ⟨rfl, rfl, rfl, by decide +kernel, rfl, by decide +kernel, by decide +kernel⟩
def sEv : SS K := (pSeq (pSet 2 (fLc (iT (sIx (qVar 0) (sInt 1))) [7, 8] (gT 2 (gsCons (gN 7 (by decide)) (gsCons (gN 8 (by decide)) gsNil))) tYs (sTup (aCons (sVar 7) aNil))).x) (pSeq (pSet 3 (fListOf (qVar 2)).x) (pSeq (pFor (vs := [4]) (iRg (aCons (sVar 1) aNil)) (gN 4 (by decide)) (pSeq (pSet 5 (fLst aNil).x) (pSeq (pFor (vs := [6]) (iL (sVar 2)) (gN 6 (by decide)) (pSet 5 (fCat (qVar 5) (fLc (iL (sCall (E := E0) 2 (fnNear K) (aCons (sVar 0) (aCons (sIx (qVar 6) (sNeg (sInt 1))) aNil)))) [9] (gN 9 (by decide)) tYs (sOp oCatT (sVar 6) (sTup (aCons (sVar 9) aNil)))).q).x)) (pSeq (pSet 2 (sVar 5)) (pSet 3 (fCat (qVar 3) (qVar 2)).x))))) (pRet (sSrtRows (fLc (iL (sVar 3)) [6] (gN 6 (by decide)) tYs (sTupOf (sSrtSet (qVar 6)).q)).q).x))))
def fnEv (K : PySem.W.Frag) : List PyData → Option PyData := runF (K := K) ["_law_web", "_law_far", "_law_rows_so", "_law_found", "_law_lap", "_law_later", "_law_line_so", "_law_tag", "_law_spot", "_law_mate"] (sEv)
theorem ok_Ev (X : Tx K mg "_law_events" ["_law_web", "_law_far"] s_L_events) (T : Bt mg) (D_L_near : Df P w K mg base 1 "_law_near" ["_law_web", "_law_tag"] (spF K 2 (fnNear K))) : Df P w K mg base 2 "_law_events" ["_law_web", "_law_far"] (spF K 2 (fnEv K)) :=
  ok_fnE X sc_L_events rfl (sEv) fun f cdv A outer s' H E hr => ⟨_, (pss_cons (ps_setLc (i := 2) (own := [("_law_tag", 7), ("_law_spot", 8)]) (g := gTup K 2 (gCons (gName 7) (gCons (gName 8) gNil))) (tt := tYes) rfl sc_L_events.nd rfl rfl (sw_true rfl rfl rfl (by decide +kernel)) (piTup K (pe_ix (ixS K) (pv 0) pe_int (fun _ _ => rfl))) (blkOk_by (N := ["_law_web", "_law_far", "_law_rows_so", "_law_found", "_law_lap", "_law_later", "_law_line_so", "_law_tag", "_law_spot", "_law_mate"]) (sc := defScope s_L_events) (by decide +kernel)) (fun _ _ _ _ _ => (pgTup K rfl (pgs_cons (pg_name (i := 7) sc_L_events.nd rfl (Or.inl rfl) (hf := .inr rfl)) (pgs_cons (pg_name (i := 8) sc_L_events.nd rfl (Or.inl rfl) (hf := .inr rfl)) pgs_nil)))) (fun _ _ _ _ _ => pts_nil) (fun _ _ _ _ _ => (pe_tupX (pa_cons (pv 7) pa_nil)))) (pss_cons (ps_set (i := 3) sc_L_events.nd rfl (Or.inl rfl) (pe_callTy (listS K) (by rfl) T.list boot_list (pa_cons (pv 2) pa_nil))) (pss_cons (ps_for PassesOwn.never rfl (pi_range1 (by rfl) T.range (pa_cons (pv 1) pa_nil)) (pg_name (i := 4) sc_L_events.nd rfl (Or.inl rfl)) (pss_cons (ps_set (i := 5) sc_L_events.nd rfl (Or.inl rfl) (pe_lst pa_nil)) (pss_cons (ps_for PassesOwn.never rfl (piList K (pv 2)) (pg_name (i := 6) sc_L_events.nd rfl (Or.inr rfl)) (pss_one (ps_set (i := 5) sc_L_events.nd rfl (Or.inl rfl) (pe_op op_cat (pv 5) (pe_lc (own := [("_law_mate", 9)]) (g := gName 9) (tt := tYes) rfl sc_L_events.nd (piList K (pe_def D_L_near hr (by omega) (pa_cons (pv 0) (pa_cons (pe_ix (ixS K) (pv 6) (pe_un un_neg pe_int) (fun _ _ => rfl)) pa_nil)))) (blkOk_by (N := ["_law_web", "_law_far", "_law_rows_so", "_law_found", "_law_lap", "_law_later", "_law_line_so", "_law_tag", "_law_spot", "_law_mate"]) (sc := defScope s_L_events) (by decide +kernel)) (fun _ _ _ _ _ => (pg_name (i := 9) sc_L_events.nd rfl (Or.inl rfl) (hf := .inr rfl))) (fun _ _ _ _ _ => pts_nil) (fun _ _ _ _ _ => (pe_op (catT K) (pv 6) (pe_tupX (pa_cons (pv 9) pa_nil))))))))) (pss_cons (ps_set (i := 2) sc_L_events.nd rfl (Or.inl rfl) (pv 5)) (pss_one (ps_set (i := 3) sc_L_events.nd rfl (Or.inl rfl) (pe_op op_cat (pv 3) (pv 2)))))))) (pss_one (ps_ret (peSrtRows K (by rfl) T.sorted (by rfl) T.set (un65 hr) (pe_lc (own := [("_law_line_so", 6)]) (g := gName 6) (tt := tYes) rfl sc_L_events.nd (piList K (pv 3)) (blkOk_by (N := ["_law_web", "_law_far", "_law_rows_so", "_law_found", "_law_lap", "_law_later", "_law_line_so", "_law_tag", "_law_spot", "_law_mate"]) (sc := defScope s_L_events) (by decide +kernel)) (fun _ _ _ _ _ => (pg_name (i := 6) sc_L_events.nd rfl (Or.inl rfl) (hf := .inr rfl))) (fun _ _ _ _ _ => pts_nil) (fun _ _ _ _ _ => (pe_callTy (tupS K) (by rfl) T.tuple boot_tuple (pa_cons (peSrtSet K (by rfl) T.sorted (by rfl) T.set (pv 6)) pa_nil)))))))))), rfl⟩
abbrev s_L_inside : Stmt := topS 25
theorem sc_L_inside : FnScope ["_law_web", "_law_group", "_law_spot", "_law_told", "_law_k", "_law_much", "_law_tag"] ["_law_web", "_law_group", "_law_spot"] (defScope s_L_inside) := ⟨rfl, rfl, rfl, by decide +kernel, rfl, by decide +kernel, by decide +kernel⟩
def sIns : SS K := (pSeq (pSet 3 (sDictOf (sIx (qVar 0) (sInt 1)).q)) (pSeq (pFor (vs := [4, 5]) (iEnQ (aCons (sVar 2) aNil)) (gT 2 (gsCons (gN 4 (by decide)) (gsCons (gN 5 (by decide)) gsNil))) (pIf (tTst (sOp (oInF true) (sVar 5) (fLc (iT (sVar 1)) [6] (gN 6 (by decide)) tYs (sIx (sDGet (dVar 3) (sVar 6)).q (sVar 4))).x)) (pRet (sBl false)) pNext)) (pRet (sBl true))))
def fnIns (K : PySem.W.Frag) : List PyData → Option PyData := runF (K := K) ["_law_web", "_law_group", "_law_spot", "_law_told", "_law_k", "_law_much", "_law_tag"] (sIns)
theorem ok_Ins (X : Tx K mg "_law_inside" ["_law_web", "_law_group", "_law_spot"] s_L_inside) (T : Bt mg)  : Df P w K mg base 1 "_law_inside" ["_law_web", "_law_group", "_law_spot"] (spF K 3 (fnIns K)) :=
  ok_fnE X sc_L_inside rfl (sIns) fun f cdv A outer s' H E hr => ⟨_, (pss_cons (ps_set (i := 3) sc_L_inside.nd rfl (Or.inr rfl) (pe_callTy (dictX K) (by rfl) T.dict boot_dict (pa_cons (pe_ix (ixS K) (pv 0) pe_int (fun _ _ => rfl)) pa_nil))) (pss_cons (ps_for PassesOwn.never rfl (piEnumQ K (by rfl) T.enumerate (pa_cons (pv 2) pa_nil)) (pgTup K rfl (pgs_cons (pg_name (i := 4) sc_L_inside.nd rfl (Or.inr rfl)) (pgs_cons (pg_name (i := 5) sc_L_inside.nd rfl (Or.inl rfl)) pgs_nil))) (pss_one (ps_if (pt_cmpR (ninS K) (pv 5) (pe_lc (own := [("_law_tag", 6)]) (g := gName 6) (tt := tYes) rfl sc_L_inside.nd (piTup K (pv 1)) (blkOk_by (N := ["_law_web", "_law_group", "_law_spot", "_law_told", "_law_k", "_law_much", "_law_tag"]) (sc := defScope s_L_inside) (by decide +kernel)) (fun _ _ _ _ _ => (pg_name (i := 6) sc_L_inside.nd rfl (Or.inl rfl) (hf := .inr rfl))) (fun _ _ _ _ _ => pts_nil) (fun _ _ _ _ _ => (pe_ix (ixS K) (pe_dget (hu_of hr) (pv 3) (pv 6) (fun _ _ => rfl)) (pv 4) (fun _ _ => rfl)))) (by rfl)) (pss_one (ps_ret pe_bl)) pss_nil))) (pss_one (ps_ret pe_bl)))), rfl⟩
abbrev s_L_arcs_good : Stmt := topS 26
theorem sc_L_arcs_good : FnScope ["_law_web", "_law_far", "_law_lots", "_law_spot", "_law_mine", "_law_group", "_law_tag", "_law_own_so"] ["_law_web", "_law_far"] (defScope s_L_arcs_good) := ⟨rfl, rfl, rfl, by decide +kernel, rfl, by decide +kernel, by decide +kernel⟩
def sArcs : SS K := (pSeq (pSet 2 (sCall (E := E0) 2 (fnEv K) (aCons (sVar 0) (aCons (sVar 1) aNil)))) (pSeq (pFor (vs := [3]) (iL (sCall (E := E0) 1 (fnWs K) (aCons (sIx (qVar 0) (sInt 0)) aNil))) (gN 3 (by decide)) (pSeq (pSet 4 (fLc (iL (sVar 2)) [5] (gN 5 (by decide)) (tVal (sCall (E := E0) 3 (fnIns K) (aCons (sVar 0) (aCons (sVar 5) (aCons (sVar 3) aNil))))) (sVar 5)).x) (pFor (vs := [5]) (iL (fSl (sVar 4) oNo (oInt (sInt 1))).x) (gN 5 (by decide)) (pIf (tTst (sOp oEq (fLc (iT (sVar 5)) [6] (gN 6 (by decide)) (tTst (sOp oEq (fLc (iL (sVar 4)) [7] (gN 7 (by decide)) (tTst (sOp (oInF true) (sVar 6) (sVar 7))) (sVar 7)).x (fLst aNil).x)) (sVar 6)).x (fLst aNil).x)) (pRet (sBl false)) pNext)))) (pRet (sBl true))))
def fnArcs (K : PySem.W.Frag) : List PyData → Option PyData := runF (K := K) ["_law_web", "_law_far", "_law_lots", "_law_spot", "_law_mine", "_law_group", "_law_tag", "_law_own_so"] (sArcs)
theorem ok_Arcs (X : Tx K mg "_law_arcs_good" ["_law_web", "_law_far"] s_L_arcs_good) (T : Bt mg) (D_L_events : Df P w K mg base 2 "_law_events" ["_law_web", "_law_far"] (spF K 2 (fnEv K))) (D_L_words : Df P w K mg base 1 "_law_words" ["_law_wide"] (spF K 1 (fnWs K))) (D_L_inside : Df P w K mg base 1 "_law_inside" ["_law_web", "_law_group", "_law_spot"] (spF K 3 (fnIns K))) : Df P w K mg base 3 "_law_arcs_good" ["_law_web", "_law_far"] (spF K 2 (fnArcs K)) :=
  ok_fnE X sc_L_arcs_good rfl (sArcs) fun f cdv A outer s' H E hr => ⟨_, (pss_cons (ps_set (i := 2) sc_L_arcs_good.nd rfl (Or.inl rfl) (pe_def D_L_events hr (by omega) (pa_cons (pv 0) (pa_cons (pv 1) pa_nil)))) (pss_cons (ps_for PassesOwn.never rfl (piList K (pe_def D_L_words hr (by omega) (pa_cons (pe_ix (ixS K) (pv 0) pe_int (fun _ _ => rfl)) pa_nil))) (pg_name (i := 3) sc_L_arcs_good.nd rfl (Or.inr rfl)) (pss_cons (ps_set (i := 4) sc_L_arcs_good.nd rfl (Or.inr rfl) (pe_lc (own := [("_law_group", 5)]) (g := gName 5) (tt := _) rfl sc_L_arcs_good.nd (piList K (pv 2)) (blkOk_by (N := ["_law_web", "_law_far", "_law_lots", "_law_spot", "_law_mine", "_law_group", "_law_tag", "_law_own_so"]) (sc := defScope s_L_arcs_good) (by decide +kernel)) (fun _ _ _ _ _ => (pg_name (i := 5) sc_L_arcs_good.nd rfl (Or.inl rfl) (hf := .inr rfl))) (fun _ _ _ _ _ => (pts_one (pt_val (pe_def D_L_inside hr (by omega) (pa_cons (pv 0) (pa_cons (pv 5) (pa_cons (pv 3) pa_nil))))))) (fun _ _ _ _ _ => (pv 5)))) (pss_one (ps_for PassesOwn.never rfl (piList K (pe_slice (slL K) (pv 4) po_none (po_some pe_int))) (pg_name (i := 5) sc_L_arcs_good.nd rfl (Or.inl rfl)) (pss_one (ps_if (pt_cmpR (eqS K hr.units) (pe_lc (own := [("_law_tag", 6)]) (g := gName 6) (tt := _) rfl sc_L_arcs_good.nd (piTup K (pv 5)) (blkOk_by (N := ["_law_web", "_law_far", "_law_lots", "_law_spot", "_law_mine", "_law_group", "_law_tag", "_law_own_so"]) (sc := defScope s_L_arcs_good) (by decide +kernel)) (fun _ _ _ _ _ => (pg_name (i := 6) sc_L_arcs_good.nd rfl (Or.inr rfl) (hf := .inl rfl))) (fun _ _ _ _ _ => (pts_one (pt_cmpR (eqS K hr.units) (pe_lc (own := [("_law_own_so", 7)]) (g := gName 7) (tt := _) rfl sc_L_arcs_good.nd (piList K (pv 4)) (blkOk_in (N := ["_law_web", "_law_far", "_law_lots", "_law_spot", "_law_mine", "_law_group", "_law_tag", "_law_own_so"]) (by decide +kernel)) (fun _ _ _ _ _ => (pg_name (i := 7) sc_L_arcs_good.nd rfl (Or.inl rfl) (hf := .inr rfl))) (fun _ _ _ _ _ => (pts_one (pt_cmpR (ninS K) (pv 6) (pv 7) (by rfl)))) (fun _ _ _ _ _ => (pv 7))) (pe_lst pa_nil) (nomark _)))) (fun _ _ _ _ _ => (pv 6))) (pe_lst pa_nil) (nomark _)) (pss_one (ps_ret pe_bl)) pss_nil)))))) (pss_one (ps_ret pe_bl)))), rfl⟩
abbrev s_L_ring_right : Stmt := topS 27
theorem sc_L_ring_right : FnScope ["_law_many", "_law_web", "_law_far", "_law_k"] ["_law_many"] (defScope s_L_ring_right) := ⟨rfl, rfl, rfl, by decide +kernel, rfl, by decide +kernel, by decide +kernel⟩
def sRing {C : Addr} (R : RsF K C "number") : SS K := (pSeq (pTgt (vs := [1, 2]) (gT 2 (gsCons (gN 1 (by decide)) (gsCons (gN 2 (by decide)) gsNil))) (sTup (aCons (sCall (E := E0) 2 (fnSC R) (aCons (sVar 0) (aCons (sTupS (sSlS (sStr "abcdefghij") oNo (oInt (sOp oMul (sInt 2) (sVar 0))))) aNil))) (aCons (sCall (E := E0) 1 (fnSL K) (aCons (sVar 0) aNil)) aNil)))) (pSeq (pIf (tOrr (tTst (sOp oNe (sVar 2) (sCall (E := E0) 1 (fnRL K) (aCons (sOp oMul (sInt 2) (sVar 0)) aNil)))) (tOrr (tNo (tVal (sCall (E := E0) 2 (fnRR K) (aCons (sOp oMul (sInt 2) (sVar 0)) (aCons (sVar 2) aNil))))) (tVal (sCall (E := E0) 2 (fnRR K) (aCons (sOp oMul (sInt 2) (sVar 0)) (aCons (sOp oAdd (sVar 2) (sInt 1)) aNil)))))) (pRet (sBl false)) pNext) (pRet (sOp oEq (fLc (iRg (aCons (sOp oAdd (sVar 2) (sInt 2)) aNil)) [3] (gN 3 (by decide)) tYs (sCall (E := E0) 2 (fnArcs K) (aCons (sVar 1) (aCons (sVar 3) aNil)))).x (fCat (fRep (fLst (aCons (sBl true) aNil)).x (sOp oAdd (sVar 2) (sInt 1))).q (fLst (aCons (sBl false) aNil)).q).x))))
def fnRing {C : Addr} (R : RsF K C "number") : List PyData → Option PyData := runF (K := K) ["_law_many", "_law_web", "_law_far", "_law_k"] (sRing R)
theorem ok_Ring {C : Addr} (R : RsF K C "number") (X : Tx K mg "_law_ring_right" ["_law_many"] s_L_ring_right) (T : Bt mg) (D_shifted_chart : Df P w K mg base 5 "shifted_chart" ["bits", "wanted"] (spF K 2 (fnSC R))) (D_shifted_longest : Df P w K mg base 2 "shifted_longest" ["bits"] (spF K 1 (fnSL K))) (D_ring_longest : Df P w K mg base 1 "ring_longest" ["number"] (spF K 1 (fnRL K))) (D_ring_right : Df P w K mg base 1 "ring_right" ["number", "long"] (spF K 2 (fnRR K))) (D_L_arcs_good : Df P w K mg base 3 "_law_arcs_good" ["_law_web", "_law_far"] (spF K 2 (fnArcs K))) : Df P w K mg base 6 "_law_ring_right" ["_law_many"] (spF K 1 (fnRing R)) :=
  ok_fnE X sc_L_ring_right rfl (sRing R) fun f cdv A outer s' H E hr => ⟨_, (pss_cons (ps_asg (pe_tupX (pa_cons (pe_def D_shifted_chart hr (by omega) (pa_cons (pv 0) (pa_cons (pe_callTy (call_tupS rfl) (by rfl) T.tuple boot_tuple (pa_cons (pe_slice sl_str pe_str po_none (po_some (pe_op op_mul pe_int (pv 0)))) pa_nil)) pa_nil))) (pa_cons (pe_def D_shifted_longest hr (by omega) (pa_cons (pv 0) pa_nil)) pa_nil))) (pgTup K rfl (pgs_cons (pg_name (i := 1) sc_L_ring_right.nd rfl (Or.inr rfl)) (pgs_cons (pg_name (i := 2) sc_L_ring_right.nd rfl (Or.inl rfl)) pgs_nil)))) (pss_cons (ps_if (PW.pt (pw_or (pt_cmpR (neS K hr.units) (pv 2) (pe_def D_ring_longest hr (by omega) (pa_cons (pe_op op_mul pe_int (pv 0)) pa_nil)) (nomark _)) (pw_or (pt_not (pt_val (pe_def D_ring_right hr (by omega) (pa_cons (pe_op op_mul pe_int (pv 0)) (pa_cons (pv 2) pa_nil))))) (pw_or1 (pt_val (pe_def D_ring_right hr (by omega) (pa_cons (pe_op op_mul pe_int (pv 0)) (pa_cons (pe_op op_add (pv 2) pe_int) pa_nil)))))))) (pss_one (ps_ret pe_bl)) pss_nil) (pss_one (ps_ret (pe_cmpR (eqS K hr.units) (pe_lc (own := [("_law_k", 3)]) (g := gName 3) (tt := tYes) rfl sc_L_ring_right.nd (pi_range1 (by rfl) T.range (pa_cons (pe_op op_add (pv 2) pe_int) pa_nil)) (blkOk_by (N := ["_law_many", "_law_web", "_law_far", "_law_k"]) (sc := defScope s_L_ring_right) (by decide +kernel)) (fun _ _ _ _ _ => (pg_name (i := 3) sc_L_ring_right.nd rfl (Or.inl rfl) (hf := .inr rfl))) (fun _ _ _ _ _ => pts_nil) (fun _ _ _ _ _ => (pe_def D_L_arcs_good hr (by omega) (pa_cons (pv 1) (pa_cons (pv 3) pa_nil))))) (pe_op op_cat (pe_op op_rep (pe_lst (pa_cons pe_bl pa_nil)) (pe_op op_add (pv 2) pe_int)) (pe_lst (pa_cons pe_bl pa_nil))) (nomark _)))))), rfl⟩
abbrev s_L_by_hand_right : Stmt := topS 28
theorem sc_L_by_hand_right : FnScope ["_law_square_so", "_law_got", "_law_line_so", "_law_wide", "_law_tags", "_law_web", "_law_k"] [] (defScope s_L_by_hand_right) := ⟨rfl, rfl, rfl, by decide +kernel, rfl, by decide +kernel, by decide +kernel⟩
def sHand {C : Addr} (R : RsF K C "number") : SS K := (pSeq (pSet 0 (sCall (E := E0) 2 (fnSC R) (aCons (sInt 2) (aCons (sTup (aCons (sStr "a") (aCons (sStr "b") (aCons (sStr "c") (aCons (sStr "d") aNil))))) aNil)))) (pSeq (pOwn 1 (fLc (iRg (aCons (sInt 3) aNil)) [6] (gN 6 (by decide)) tYs (sCall (E := E0) 2 (fnArcs K) (aCons (sVar 0) (aCons (sVar 6) aNil))))) (pSeq (pFor (vs := [3, 4]) (iT (sTup (aCons (sTup (aCons (sTup (aCons (sInt 2) (aCons (sInt 2) aNil))) (aCons (sStr "abcd") aNil))) (aCons (sTup (aCons (sTup (aCons (sInt 2) (aCons (sInt 3) aNil))) (aCons (sStr "abcdef") aNil))) (aCons (sTup (aCons (sTup (aCons (sInt 3) (aCons (sInt 2) aNil))) (aCons (sStr "abcdef") aNil))) (aCons (sTup (aCons (sTup (aCons (sInt 2) (aCons (sInt 2) (aCons (sInt 2) aNil)))) (aCons (sStr "abcdefgh") aNil))) (aCons (sTup (aCons (sTup (aCons (sInt 3) (aCons (sInt 3) aNil))) (aCons (sStr "abcdefghi") aNil))) aNil))))))) (gT 2 (gsCons (gN 3 (by decide)) (gsCons (gN 4 (by decide)) gsNil))) (pSeq (pSet 5 (sCall (E := E0) 2 (fnRC R) (aCons (sVar 3) (aCons (sTupS (sVar 4)) aNil)))) (pApp 1 (fLst (aCons (sCall (E := E0) 2 (fnArcs K) (aCons (sVar 5) (aCons (sInt 0) aNil))) (aCons (sCall (E := E0) 2 (fnArcs K) (aCons (sVar 5) (aCons (sInt 1) aNil))) (aCons (sCall (E := E0) 2 (fnArcs K) (aCons (sVar 5) (aCons (sInt 2) aNil))) aNil)))).x))) (pSeq (pSet 2 (sCall (E := E0) 2 (fnRC R) (aCons (sTup (aCons (sInt 5) aNil)) (aCons (sTup (aCons (sStr "a") (aCons (sStr "b") (aCons (sStr "c") (aCons (sStr "d") (aCons (sStr "e") aNil)))))) aNil)))) (pSeq (pApp 1 (fLc (iRg (aCons (sInt 5) aNil)) [6] (gN 6 (by decide)) tYs (sCall (E := E0) 2 (fnArcs K) (aCons (sVar 2) (aCons (sVar 6) aNil)))).x) (pFrz 1 (pRet (sAndV (sCall (E := E0) 2 (fnSame 5) (aCons (sVar 1) (aCons (fCat (fCat (fLst (aCons (sBl true) (aCons (sBl true) (aCons (sBl false) aNil)))).q (fRep (fLst (aCons (fLst (aCons (sBl true) (aCons (sBl true) (aCons (sBl false) aNil)))).x aNil)).x (sInt 5)).q).q (fLst (aCons (fRep (fLst (aCons (sBl true) aNil)).x (sInt 5)).x aNil)).q).x aNil))) (sCall (E := E0) 1 (fnRing R) (aCons (sInt 3) aNil))))))))))
def fnHand {C : Addr} (R : RsF K C "number") : List PyData → Option PyData := runF (K := K) ["_law_square_so", "_law_got", "_law_line_so", "_law_wide", "_law_tags", "_law_web", "_law_k"] (sHand R)
theorem ok_Hand {C : Addr} (R : RsF K C "number") (X : Tx K mg "_law_by_hand_right" [] s_L_by_hand_right) (T : Bt mg) (D_shifted_chart : Df P w K mg base 5 "shifted_chart" ["bits", "wanted"] (spF K 2 (fnSC R))) (D_reflected_chart : Df P w K mg base 5 "reflected_chart" ["sizes", "wanted"] (spF K 2 (fnRC R))) (D_L_arcs_good : Df P w K mg base 3 "_law_arcs_good" ["_law_web", "_law_far"] (spF K 2 (fnArcs K))) (D_L_same : Df P w K mg base 5 "_law_same" ["_law_got", "_law_due"] (spF K 2 (fnSame 5))) (D_L_ring_right : Df P w K mg base 6 "_law_ring_right" ["_law_many"] (spF K 1 (fnRing R))) : Df P w K mg base 7 "_law_by_hand_right" [] (spF K 0 (fnHand R)) :=
  ok_fnE X sc_L_by_hand_right rfl (sHand R) fun f cdv A outer s' H E hr => ⟨_, (pss_cons (ps_set (i := 0) sc_L_by_hand_right.nd rfl (Or.inr rfl) (pe_def D_shifted_chart hr (by omega) (pa_cons pe_int (pa_cons (pe_tupX (pa_cons pe_str (pa_cons pe_str (pa_cons pe_str (pa_cons pe_str pa_nil))))) pa_nil)))) (pss_cons (ps_setLc (i := 1) (own := [("_law_k", 6)]) (g := gName 6) (tt := tYes) rfl sc_L_by_hand_right.nd rfl rfl (sw_true rfl rfl rfl (by decide +kernel)) (pi_range1 (by rfl) T.range (pa_cons pe_int pa_nil)) (blkOk_by (N := ["_law_square_so", "_law_got", "_law_line_so", "_law_wide", "_law_tags", "_law_web", "_law_k"]) (sc := defScope s_L_by_hand_right) (by decide +kernel)) (fun _ _ _ _ _ => (pg_name (i := 6) sc_L_by_hand_right.nd rfl (Or.inl rfl) (hf := .inr rfl))) (fun _ _ _ _ _ => pts_nil) (fun _ _ _ _ _ => (pe_def D_L_arcs_good hr (by omega) (pa_cons (pv 0) (pa_cons (pv 6) pa_nil))))) (pss_cons (ps_for PassesOwn.never rfl (piTup K (pe_tupX (pa_cons (pe_tupX (pa_cons (pe_tupX (pa_cons pe_int (pa_cons pe_int pa_nil))) (pa_cons pe_str pa_nil))) (pa_cons (pe_tupX (pa_cons (pe_tupX (pa_cons pe_int (pa_cons pe_int pa_nil))) (pa_cons pe_str pa_nil))) (pa_cons (pe_tupX (pa_cons (pe_tupX (pa_cons pe_int (pa_cons pe_int pa_nil))) (pa_cons pe_str pa_nil))) (pa_cons (pe_tupX (pa_cons (pe_tupX (pa_cons pe_int (pa_cons pe_int (pa_cons pe_int pa_nil)))) (pa_cons pe_str pa_nil))) (pa_cons (pe_tupX (pa_cons (pe_tupX (pa_cons pe_int (pa_cons pe_int pa_nil))) (pa_cons pe_str pa_nil))) pa_nil))))))) (pgTup K rfl (pgs_cons (pg_name (i := 3) sc_L_by_hand_right.nd rfl (Or.inl rfl)) (pgs_cons (pg_name (i := 4) sc_L_by_hand_right.nd rfl (Or.inl rfl)) pgs_nil))) (pss_cons (ps_set (i := 5) sc_L_by_hand_right.nd rfl (Or.inl rfl) (pe_def D_reflected_chart hr (by omega) (pa_cons (pv 3) (pa_cons (pe_callTy (call_tupS rfl) (by rfl) T.tuple boot_tuple (pa_cons (pv 4) pa_nil)) pa_nil)))) (pss_one (ps_expr (pe_bm PySem.F.plainAttrs_list PySem.F.slot_list_append PySem.F.type_list_append mt_append (pv 1) (pa_cons (pe_lst (pa_cons (pe_def D_L_arcs_good hr (by omega) (pa_cons (pv 5) (pa_cons pe_int pa_nil))) (pa_cons (pe_def D_L_arcs_good hr (by omega) (pa_cons (pv 5) (pa_cons pe_int pa_nil))) (pa_cons (pe_def D_L_arcs_good hr (by omega) (pa_cons (pv 5) (pa_cons pe_int pa_nil))) pa_nil)))) pa_nil)))))) (pss_cons (ps_set (i := 2) sc_L_by_hand_right.nd rfl (Or.inr rfl) (pe_def D_reflected_chart hr (by omega) (pa_cons (pe_tupX (pa_cons pe_int pa_nil)) (pa_cons (pe_tupX (pa_cons pe_str (pa_cons pe_str (pa_cons pe_str (pa_cons pe_str (pa_cons pe_str pa_nil)))))) pa_nil)))) (pss_cons (ps_expr (pe_bm PySem.F.plainAttrs_list PySem.F.slot_list_append PySem.F.type_list_append mt_append (pv 1) (pa_cons (pe_lc (own := [("_law_k", 6)]) (g := gName 6) (tt := tYes) rfl sc_L_by_hand_right.nd (pi_range1 (by rfl) T.range (pa_cons pe_int pa_nil)) (blkOk_by (N := ["_law_square_so", "_law_got", "_law_line_so", "_law_wide", "_law_tags", "_law_web", "_law_k"]) (sc := defScope s_L_by_hand_right) (by decide +kernel)) (fun _ _ _ _ _ => (pg_name (i := 6) sc_L_by_hand_right.nd rfl (Or.inl rfl) (hf := .inr rfl))) (fun _ _ _ _ _ => pts_nil) (fun _ _ _ _ _ => (pe_def D_L_arcs_good hr (by omega) (pa_cons (pv 2) (pa_cons (pv 6) pa_nil))))) pa_nil))) (pss_one (ps_ret (pe_and (pe_def D_L_same hr (by omega) (pa_cons (pv 1) (pa_cons (pe_op op_cat (pe_op op_cat (pe_lst (pa_cons pe_bl (pa_cons pe_bl (pa_cons pe_bl pa_nil)))) (pe_op op_rep (pe_lst (pa_cons (pe_lst (pa_cons pe_bl (pa_cons pe_bl (pa_cons pe_bl pa_nil)))) pa_nil)) pe_int)) (pe_lst (pa_cons (pe_op op_rep (pe_lst (pa_cons pe_bl pa_nil)) pe_int) pa_nil))) pa_nil))) (pe_one (pe_def D_L_ring_right hr (by omega) (pa_cons pe_int pa_nil))))))))))), rfl⟩
end
end Law

namespace Law
open PySem PySem.Spec PyProof.Rows L2 DL
def isT : Option PyData → Bool
  | some (.bool true) => true
  | _ => false
theorem isT_of {o : Option PyData} (h : isT o = true) : o = some (.bool true) := by
  unfold isT at h
  split at h
  · rfl
  · cases h
section
variable {K : PySem.W.Frag} {C : Addr} (R : RsF K C "number")
set_option maxHeartbeats 0 in
theorem hand_run : isT (fnHand R []) = true := by kernel_rfl
set_option maxHeartbeats 0 in
theorem ring_2 : isT (fnRing R [.int 2]) = true := by kernel_rfl
set_option maxHeartbeats 0 in
theorem ring_3 : isT (fnRing R [.int 3]) = true := by kernel_rfl
set_option maxHeartbeats 0 in
theorem ring_4 : isT (fnRing R [.int 4]) = true := by kernel_rfl
set_option maxHeartbeats 0 in
theorem ring_5 : isT (fnRing R [.int 5]) = true := by kernel_rfl
theorem ring_run {k : Int} (h0 : 0 ≤ k) (h4 : k < 4) : fnRing R [.int (2 + k)] = some (.bool true) := by
  rcases (by omega : k = 0 ∨ k = 1 ∨ k = 2 ∨ k = 3) with rfl | rfl | rfl | rfl
  · exact isT_of (ring_2 R)
  · exact isT_of (ring_3 R)
  · exact isT_of (ring_4 R)
  · exact isT_of (ring_5 R)
end
end Law

namespace Law
open PySem PySem.Spec PyProof.Rows L2 DL
open Evl (Ex)
open RZ
section
variable {P : Program} {w : World} {K : PySem.W.Frag} {mg : Str → Option Value} {base : Heap}
def preNone (xs : List PyData) : Prop := xs = []
def domTrue (xs : List PyData) (r : PyData) : Prop := r = .bool true
abbrev s_L_case_right : Stmt := topS 29
theorem sc_L_case_right : FnScope ["_law_tin"] ["_law_tin"] (defScope s_L_case_right) := ⟨rfl, rfl, rfl, by decide +kernel, rfl, by decide +kernel, by decide +kernel⟩
def sCase {C : Addr} (R : RsF K C "number") : YS K := yRet (yFn (E := E0) 1 (fnRing R) (yA1 (yOp oAdd (yP (sInt 2)) (yTake 0 (yP (sInt 4)))) yA0))
theorem ok_case {C : Addr} (R : RsF K C "number") (X : Tx K mg "_law_case_right" ["_law_tin"] s_L_case_right) (T : Bt mg) (D_L_take : Df P w K mg base 1 "_law_take" ["_law_tin", "_law_top_so"] spTakeW) (D_L_ring_right : Df P w K mg base 6 "_law_ring_right" ["_law_many"] (spF K 1 (fnRing R))) :
    Df P w K mg base 7 "_law_case_right" ["_law_tin"] (spB K 0 1000 preNone domTrue) :=
  (ok_fnY X sc_L_case_right rfl (by decide) (sCase R) fun f cdv A outer s' H E hr => ⟨_, (pss_one (ps_ret (pe_def D_L_ring_right hr (by omega) (pa_cons (pe_op op_add pe_int (pe_def D_L_take hr (by omega) (pa_cons (pv 0) (pa_cons pe_int pa_nil)))) pa_nil)))), rfl⟩).imp (spB_of fun ds c hl hp hc => by
    intro p
    subst hp
    exact ⟨.int 2, rfl, rfl, .int 4, rfl, 4, rfl, by decide, by decide +kernel, by omega, fun k h0 h4 => ⟨.int (2 + k), rfl, rfl, .bool true, ring_run R h0 h4, rfl, by omega⟩⟩)
end
end Law

namespace Law
open PySem PySem.Spec PyProof.Rows L2 DL
open Evl (Ex)
open RZ
section
variable {P : Program} {w : World} {K : PySem.W.Frag} {mg : Str → Option Value} {base : Heap}
abbrev s_L_right : Stmt := topS 30
theorem sc_L_right : FnScope ["_law_tin", "_law_turn"] ["_law_tin"] (defScope s_L_right) := ⟨rfl, rfl, rfl, by decide +kernel, rfl, by decide +kernel, by decide +kernel⟩
theorem cd_all {bs : List Bool} : CD K (rAll K) [.list (bs.map PyData.bool)] (.bool (bs.all id)) := fun Hd H vs ex hv Q q => by
  cases hv with
  | cons g hv =>
    cases hv
    cases g with
    | @lst a ws _ g1 g2 => exact ⟨a, bs, rfl, SqL.of (by rw [ex _ _ g1, g2.ofBls]), q _ Hd H (.refl ex) (.bl _)⟩
theorem all_true : ∀ {qs : List PyData}, (∀ x ∈ qs, x = .bool true) → qs = (List.replicate qs.length true).map PyData.bool
  | [], _ => rfl
  | x :: qs, h => by
    rw [h x List.mem_cons_self]
    show PyData.bool true :: qs = PyData.bool true :: (List.replicate qs.length true).map PyData.bool
    rw [← all_true fun y hy => h y (List.mem_cons_of_mem _ hy)]
theorem all_rep : ∀ n : Nat, (List.replicate n true).all id = true
  | 0 => rfl
  | n + 1 => by rw [List.replicate_succ, List.all_cons, all_rep n]; rfl
theorem ok_right (X : Tx K mg "_law_right" ["_law_tin"] s_L_right) (T : Bt mg) (D_L_case_right : Df P w K mg base 7 "_law_case_right" ["_law_tin"] (spB K 0 1000 preNone domTrue)) :
    Df P w K mg base 8 "_law_right" ["_law_tin"] (spB K 0 200000000 preNone domTrue) := by
  refine X.ok sc_L_right (fun vs H Q E h => h.1.trans rfl) (fun f cdv A outer s H vs Q E hr h => ?_)
  obtain ⟨hl, p, c, Hd, xs, o, ws, rfl, e, k0, ho, hb, hc, hd, rfl, q⟩ := h
  refine ⟨_, (pss_one (ps_ret (pe_callB (allS K) (by rfl) T.all (by decide +kernel) (pa_cons (pe_lc (own := [("_law_turn", 1)]) (g := gName 1) (tt := tYes) rfl sc_L_right.nd (pi_range1 (by rfl) T.range (pa_cons pe_int pa_nil)) (blkOk_by (N := ["_law_tin", "_law_turn"]) (sc := defScope s_L_right) (by decide +kernel)) (fun _ _ _ _ _ => (pg_name (i := 1) sc_L_right.nd rfl (Or.inl rfl) (hf := .inr rfl))) (fun _ _ _ _ _ => pts_nil) (fun _ _ _ _ _ => (pe_def D_L_case_right hr (by omega) (pa_cons (pv 0) pa_nil)))) pa_nil)))), ?_⟩
  refine run_b (dom := domTrue) e k0 ho hb hc hd (by decide) ?_ q
  refine (sb_ret (EB.le (n := 0 + 1 * (0 + 1000) + 0) (eb_cb (S := fun rs => ∃ n, rs = [.list ((List.replicate n true).map PyData.bool)]) (EAB.imp (eab_cons (eb_lc (M := 1) (Re := fun _ r => r = .bool true) (EI.bb (ei_rng1 (n := 1) (ea_cons ed_int ea_nil) (by decide) (by decide))) (fun rs hrs => ?_) (by decide)) eab_nil) ?_) ?_) (by decide))).imp (fun _ z => z) (fun r h => h)
  · subst hrs
    refine ⟨by decide, fun r hr => ⟨_, gdb_name (List.mem_singleton.mpr rfl), EB.imp (eb_callB (ar := 0) (m := 1000) (pre := preNone) (dom := domTrue) (S := fun xs => xs = []) rfl eab_nil ?_) ?_⟩⟩
    · rintro xs rfl
      exact ⟨rfl, rfl⟩
    · rintro r ⟨_, _, h⟩
      exact h
  · rintro rs ⟨r, rr, rfl, ⟨rs, qs, rfl, _, hp⟩, rfl⟩
    refine ⟨qs.length, ?_⟩
    rw [← all_true fun x hx => ?_]
    obtain ⟨k, hk⟩ := List.getElem?_of_mem hx
    obtain ⟨_, _, h⟩ := pairGot hp hk
    exact h
  · rintro xs ⟨n, rfl⟩
    exact ⟨_, cd_all, by show PyData.bool _ = .bool true; rw [all_rep]⟩
abbrev s_law : Stmt := topS 31
theorem sc_law : FnScope ["_law_script", "_law_lots_so", "_law_k"] ["_law_script"] (defScope s_law) := ⟨rfl, rfl, rfl, by decide +kernel, rfl, by decide +kernel, by decide +kernel⟩
def spLaw (K : PySem.W.Frag) : Sp := fun vs H Q _ => ∃ (a : Addr) (ns : List Int), vs = [.ref a] ∧ SqL K H a (ns.map V.int) ∧ ns.length ≤ 63 ∧ ∀ H', Q (.bl true) H'
theorem ed_run {Γ : List G} {ms : List Int} {j : Nat} {N : Nat} (h1 : Γ[1]? = some (.dat (.list (ms.map PyData.int)))) (h2 : Γ[2]? = some (.dat (.int (j : Int)))) (hj : j < ms.length) (hl : ms.length ≤ 1000) (hN : 0 + N < 2 ^ 60) :
    ED K (tCall (spB K 0 N preNone domTrue) [] E0 (tCons (tCall spBox [] E0 (tCons (tVar 1) (tCons (tVar 2) tNil))) tNil)) Γ (.bool true) := fun _ _ σ Hd H e Q q => by
  obtain ⟨v1, s1, d1⟩ := e.dat h1
  obtain ⟨v2, s2, d2⟩ := e.dat h2
  cases d2
  cases d1 with
  | @lst a ws _ g1 g2 =>
    have ew := g2.ofInts
    subst ew
    refine ⟨_, s1, _, s2, a, ms, j, rfl, e.x.i _ _ g1, hj, hl, fun p o hp hb => ?_⟩
    have hid : hid p (upd H p o) = H := by
      funext x
      unfold DL.hid
      by_cases z : x = p
      · rw [if_pos z, z, hp]
      · rw [if_neg z, upd_ne z]
    refine ⟨rfl, p, 0, Hd, [], o, [], rfl, e.x.i.trans (Ex.new hp), Evl.fresh_back e.x.i hp, upd_same, hb, hN, .nil, rfl, fun v r Hd' H' hr x _ _ dv => ?_⟩
    rw [hid] at x
    rw [show r = .bool true from hr] at dv
    exact q v Hd' H' x dv
theorem body_law (T : Bt mg) (D_L_by_hand_right : Df P w K mg base 7 "_law_by_hand_right" [] (spD K 0 fun ds r => ds = [] ∧ r = .bool true)) (D_L_cells : Df P w K mg base 1 "_law_cells" ["_law_script", "_law_most"] (spCells K)) (D_L_box : Df P w K mg base 1 "_law_box" ["_law_script", "_law_k"] spBox)
    (D_L_right : Df P w K mg base 8 "_law_right" ["_law_tin"] (spB K 0 200000000 preNone domTrue)) : ∀ (f : Addr) (cdv : Value) (A : Around) (outer : List Env) (s : Shared) (H : Hp) (vs : List V) (Q : VK) (E : XK), Room 8 (A.deeper (envOfC "law" (defScope s_law) s.heap.objs.size f cdv)) → spLaw K vs H Q E →
      ∃ t, PSs (cxOf CX0 P w K mg base ["_law_script", "_law_lots_so", "_law_k"] "law" (defScope s_law) f cdv A outer s H E).nox (defBody s_law) t ∧ t { nx := fun _ H' => Q .non H', rt := Q } (L2.start ["_law_script", "_law_lots_so", "_law_k"] vs) H := by
  intro f cdv A outer s H vs Q E hr h
  obtain ⟨a, ns, rfl, ha, hn, q⟩ := h
  refine ⟨_, (pss_cons (ps_if (pt_not (pt_val (pe_def0 D_L_by_hand_right hr (by omega)))) (pss_one (ps_ret pe_bl)) pss_nil) (pss_cons (ps_set (i := 1) sc_law.nd rfl (Or.inr rfl) (pe_def D_L_cells hr (by omega) (pa_cons (pv 0) (pa_cons pe_int pa_nil)))) (pss_one (ps_ret (pe_callB (allS K) (by rfl) T.all (by decide +kernel) (pa_cons (pe_lc (own := [("_law_k", 2)]) (g := gName 2) (tt := tYes) rfl sc_law.nd (pi_range1 (by rfl) T.range (pa_cons (pe_callB (lenS K) (by rfl) T.len PySem.boot_len (pa_cons (pv 1) pa_nil)) pa_nil)) (blkOk_by (N := ["_law_script", "_law_lots_so", "_law_k"]) (sc := defScope s_law) (by decide +kernel)) (fun _ _ _ _ _ => (pg_name (i := 2) sc_law.nd rfl (Or.inl rfl) (hf := .inr rfl))) (fun _ _ _ _ _ => pts_nil) (fun _ _ _ _ _ => (pe_def D_L_right hr (by omega) (pa_cons (pe_def D_L_box hr (by omega) (pa_cons (pv 1) (pa_cons (pv 2) pa_nil))) pa_nil)))) pa_nil)))))), ?_⟩
  refine ⟨rfl, fun _ => none, [], _, (fun _ _ z => nomatch z), .nil, ⟨rfl, rfl⟩, fun v Hd1 H1 x1 dv => ?_⟩
  cases dv
  refine ⟨true, rfl, iteF ?_⟩
  have ha1 := Evl.ex_l x1.h ha
  refine ⟨_, rfl, a, ns, 3, rfl, ha1, hn, by decide, by decide, fun p ms H2 hp e2 l1 l3 h2 => ?_⟩
  have e : Ex (upd (fun _ => none) p (.lst (ms.map V.int))) H2 := fun x o hx => by
    by_cases z : x = p
    · subst z; rw [upd_same] at hx; cases hx; exact h2
    · rw [upd_ne z] at hx; cases hx
  have en : En K (upd (fun _ => none) p (.lst (ms.map V.int))) H2 [.any, .dat (.list (ms.map PyData.int)), .any] [some (.ref a), some (.ref p), none] (upd (fun _ => none) p (.lst (ms.map V.int))) H2 := by
    refine ⟨.refl e, rfl, fun i g hg => ?_, fun i j fs es w _ h1 _ _ _ => ?_⟩
    · match i, hg with
      | 0, hg => cases hg; trivial
      | 1, hg => cases hg; exact ⟨_, rfl, .lst upd_same (DtA.ints ms)⟩
      | 2, hg => cases hg; trivial
      | i + 3, hg => cases hg
    · match i, h1 with
      | 0, h => cases h
      | 1, h => cases h
      | 2, h => cases h
      | i + 3, h => cases h
  have hl : ((List.range ((ms.map PyData.int).length : Int).toNat).map fun (k : Nat) => PyData.int (k : Int)).length ≤ 100000 := by
    rw [List.length_map, List.length_range, List.length_map]; omega
  refine ed_all (bs := (List.range ((ms.map PyData.int).length : Int).toNat).map fun _ => true) (EF.rd (EF.is (ef_lc0 (f := fun _ => .bool true) (ei_rng1 (ea_cons (ed_lenR (ed_var (d := .list (ms.map PyData.int)) rfl).rd) ea_nil) (by rw [List.length_map]; omega)) hl fun d hdm => ?_) ?_)) _ _ _ _ _ en _ fun v Hd3 H3 x3 dv => ?_
  · obtain ⟨j, hj, rfl⟩ := List.mem_map.mp hdm
    have hj' := List.mem_range.mp hj
    rw [List.length_map] at hj'
    exact ⟨_, gd_name (List.mem_singleton.mpr rfl), ed_run rfl rfl (by omega) (by omega) (by decide)⟩
  · rw [List.map_map, List.map_map]
    rfl
  · have eb : ((List.range ((ms.map PyData.int).length : Int).toNat).map fun _ => true).all id = true := by simp
    rw [eb] at dv
    cases dv
    exact q H3
end
end Law

namespace Law
open PySem PySem.Spec PyProof.Rows L2 DL
open Evl (Ex)
open RZ
section
variable {P : Program} {w : World} {K : PySem.W.Frag} {mg : Str → Option Value} {base : Heap}
def bodyOf : Stmt → List Stmt
  | .ClassDef _ _ _ body .. => body
  | _ => []
abbrev initN : Stmt := (bodyOf (topS 1)).getD 0 (.Pass ⟨0, 0, 0, 0⟩)
theorem sc_iN : FnScope ["self", "number"] ["self", "number"] (defScope initN) := ⟨rfl, rfl, rfl, by decide +kernel, rfl, by decide +kernel, by decide +kernel⟩
theorem ok_iN {fI : Addr} {fd : FuncData} (F : Fun K "__init__" "NoNumber.__init__" initN fI fd) : FnOk P w K mg base CX0 1 fI fd ["self", "number"] (spE1 K "number") := by
  refine F.ok sc_iN (fun vs H Q E h => ?_) (fun cdv A outer s H vs Q E hr h => ?_)
  · obtain ⟨a, C, B, n1, n2, bm, y, rfl, _⟩ := h
    rfl
  · obtain ⟨a, C, B, n1, n2, bm, y, rfl, T, ht, ha, q⟩ := h
    refine ⟨_, pss_one (ps_stO (pv 0) (pv 1)), ?_⟩
    exact ⟨_, rfl, _, rfl, a, C, B, n1, n2, bm, rfl, T, ht, .inl ⟨ha, fun dx h1 h2 => q dx h1 h2⟩⟩
end
theorem all_mk {l : PySem.W.OpenLaw} {w : World} {K : PySem.W.Frag} {h : Heap} {mg : Str → Option Value} {fa : Addr} (X : K.In h) (G : h.Ns mainGlobals mg) (hfa : mg "law" = some (.ref fa))
    {C : Addr} {fI : Addr} {odI anI : Option Addr} {slI : Array (Option Value)} {ocI kVI dcI pmI cdI ctI : Value}
    {f0 : Addr} {od0 an0 : Option Addr} {sl0 : Array (Option Value)} {oc0 kV0 dc0 pm0 cd0 ct0 : Value}
    {f1 : Addr} {od1 an1 : Option Addr} {sl1 : Array (Option Value)} {oc1 kV1 dc1 pm1 cd1 ct1 : Value}
    {f2 : Addr} {od2 an2 : Option Addr} {sl2 : Array (Option Value)} {oc2 kV2 dc2 pm2 cd2 ct2 : Value}
    {f3 : Addr} {od3 an3 : Option Addr} {sl3 : Array (Option Value)} {oc3 kV3 dc3 pm3 cd3 ct3 : Value}
    {f4 : Addr} {od4 an4 : Option Addr} {sl4 : Array (Option Value)} {oc4 kV4 dc4 pm4 cd4 ct4 : Value}
    {f5 : Addr} {od5 an5 : Option Addr} {sl5 : Array (Option Value)} {oc5 kV5 dc5 pm5 cd5 ct5 : Value}
    {f6 : Addr} {od6 an6 : Option Addr} {sl6 : Array (Option Value)} {oc6 kV6 dc6 pm6 cd6 ct6 : Value}
    {f7 : Addr} {od7 an7 : Option Addr} {sl7 : Array (Option Value)} {oc7 kV7 dc7 pm7 cd7 ct7 : Value}
    {f8 : Addr} {od8 an8 : Option Addr} {sl8 : Array (Option Value)} {oc8 kV8 dc8 pm8 cd8 ct8 : Value}
    {f9 : Addr} {od9 an9 : Option Addr} {sl9 : Array (Option Value)} {oc9 kV9 dc9 pm9 cd9 ct9 : Value}
    {f10 : Addr} {od10 an10 : Option Addr} {sl10 : Array (Option Value)} {oc10 kV10 dc10 pm10 cd10 ct10 : Value}
    {f11 : Addr} {od11 an11 : Option Addr} {sl11 : Array (Option Value)} {oc11 kV11 dc11 pm11 cd11 ct11 : Value}
    {f12 : Addr} {od12 an12 : Option Addr} {sl12 : Array (Option Value)} {oc12 kV12 dc12 pm12 cd12 ct12 : Value}
    {f13 : Addr} {od13 an13 : Option Addr} {sl13 : Array (Option Value)} {oc13 kV13 dc13 pm13 cd13 ct13 : Value}
    {f14 : Addr} {od14 an14 : Option Addr} {sl14 : Array (Option Value)} {oc14 kV14 dc14 pm14 cd14 ct14 : Value}
    {f15 : Addr} {od15 an15 : Option Addr} {sl15 : Array (Option Value)} {oc15 kV15 dc15 pm15 cd15 ct15 : Value}
    {f16 : Addr} {od16 an16 : Option Addr} {sl16 : Array (Option Value)} {oc16 kV16 dc16 pm16 cd16 ct16 : Value}
    {f17 : Addr} {od17 an17 : Option Addr} {sl17 : Array (Option Value)} {oc17 kV17 dc17 pm17 cd17 ct17 : Value}
    {f18 : Addr} {od18 an18 : Option Addr} {sl18 : Array (Option Value)} {oc18 kV18 dc18 pm18 cd18 ct18 : Value}
    {f19 : Addr} {od19 an19 : Option Addr} {sl19 : Array (Option Value)} {oc19 kV19 dc19 pm19 cd19 ct19 : Value}
    {f20 : Addr} {od20 an20 : Option Addr} {sl20 : Array (Option Value)} {oc20 kV20 dc20 pm20 cd20 ct20 : Value}
    {f21 : Addr} {od21 an21 : Option Addr} {sl21 : Array (Option Value)} {oc21 kV21 dc21 pm21 cd21 ct21 : Value}
    {f22 : Addr} {od22 an22 : Option Addr} {sl22 : Array (Option Value)} {oc22 kV22 dc22 pm22 cd22 ct22 : Value}
    {f23 : Addr} {od23 an23 : Option Addr} {sl23 : Array (Option Value)} {oc23 kV23 dc23 pm23 cd23 ct23 : Value}
    {f24 : Addr} {od24 an24 : Option Addr} {sl24 : Array (Option Value)} {oc24 kV24 dc24 pm24 cd24 ct24 : Value}
    {f25 : Addr} {od25 an25 : Option Addr} {sl25 : Array (Option Value)} {oc25 kV25 dc25 pm25 cd25 ct25 : Value}
    (aC : PySem.W.nsIn K mainGlobals "NoNumber" = some (some (.ref C)))
    (md : PySem.W.excInitIn K C [.type "LookupError", .type "Exception", .type "BaseException", .type "object"] "LookupError.__new__" = true)
    (kC : PySem.W.keepIn K (.ref C) = true)
    (hg : PySem.W.findIn K (.ref C) "__getattribute__" = some (some (.builtin "BaseException.__getattribute__")))
    (hk : PySem.W.findIn K (.ref C) "__getattr__" = some none)
    (hs : PySem.W.subIn K (.ref C) (.type "BaseException") = some true)
    (hd : PySem.W.hasDictIn K C = true)
    (ha : PySem.W.findIn K (.ref C) "__class__" = some (some (.builtin "object.__class__")))
    (hm : PySem.W.mroIn K C (.type "object") = some true)
    (ov : PySem.W.excOver K C [.type "LookupError", .type "Exception", .type "BaseException", .type "object"] = true)
    (sa : PySem.W.findIn K (.ref C) "__setattr__" = some (some (.builtin "object.__setattr__")))
    (ic : PySem.W.findIn K (.ref C) "__init__" = some (some (.ref fI)))
    (ti : PySem.W.typeIn K (.ref fI) = some (.type "function"))
    (lk : K.lookup fI = some ⟨ocI, odI, .func (PySem.W.fnOf "__init__" "NoNumber.__init__" (defArgs initN) (defBody initN) (defScope initN) .none kVI dcI pmI anI cdI ctI), slI⟩)
    (cd : PySem.W.codeIn K cdI "NoNumber.__init__" = true)
    (kf : PySem.W.keepIn K (.ref fI) = true)
    (hn : PySem.W.specialIn K (.builtin "object.__class__") "__get__" = some (some (.builtin "getset_descriptor.__get__")))
    (ht : PySem.W.takesIn K (.builtin "object.__class__") = some true)
    (r2 : PySem.W.typeIn K (.ref C) = some (.type "type"))
    (tk : PySem.W.takerIn K C "number" = some none)
    (nf : PySem.W.findIn K (.ref C) "number" = some none)
    (ex : PySem.W.exmOne K (.ref C) (.ref C) = some true)
    (ki : PySem.W.kitOne K (.ref C) (.type "LookupError") = some true)
    (a0 : PySem.W.nsIn K mainGlobals "as_tuples" = some (some (.ref f0)))
    (l0 : K.lookup f0 = some ⟨oc0, od0, .func (PySem.W.fnOf "as_tuples" "as_tuples" (defArgs s_as_tuples) (defBody s_as_tuples) (defScope s_as_tuples) .none kV0 dc0 pm0 an0 cd0 ct0), sl0⟩)
    (c0 : PySem.W.codeIn K cd0 "as_tuples" = true)
    (k0 : PySem.W.keepIn K (.ref f0) = true)
    (a1 : PySem.W.nsIn K mainGlobals "in_order" = some (some (.ref f1)))
    (l1 : K.lookup f1 = some ⟨oc1, od1, .func (PySem.W.fnOf "in_order" "in_order" (defArgs s_in_order) (defBody s_in_order) (defScope s_in_order) .none kV1 dc1 pm1 an1 cd1 ct1), sl1⟩)
    (c1 : PySem.W.codeIn K cd1 "in_order" = true)
    (k1 : PySem.W.keepIn K (.ref f1) = true)
    (a2 : PySem.W.nsIn K mainGlobals "ring_right" = some (some (.ref f2)))
    (l2 : K.lookup f2 = some ⟨oc2, od2, .func (PySem.W.fnOf "ring_right" "ring_right" (defArgs s_ring_right) (defBody s_ring_right) (defScope s_ring_right) .none kV2 dc2 pm2 an2 cd2 ct2), sl2⟩)
    (c2 : PySem.W.codeIn K cd2 "ring_right" = true)
    (k2 : PySem.W.keepIn K (.ref f2) = true)
    (a3 : PySem.W.nsIn K mainGlobals "ring_longest" = some (some (.ref f3)))
    (l3 : K.lookup f3 = some ⟨oc3, od3, .func (PySem.W.fnOf "ring_longest" "ring_longest" (defArgs s_ring_longest) (defBody s_ring_longest) (defScope s_ring_longest) .none kV3 dc3 pm3 an3 cd3 ct3), sl3⟩)
    (c3 : PySem.W.codeIn K cd3 "ring_longest" = true)
    (k3 : PySem.W.keepIn K (.ref f3) = true)
    (a4 : PySem.W.nsIn K mainGlobals "how_many_numbers" = some (some (.ref f4)))
    (l4 : K.lookup f4 = some ⟨oc4, od4, .func (PySem.W.fnOf "how_many_numbers" "how_many_numbers" (defArgs s_how_many_numbers) (defBody s_how_many_numbers) (defScope s_how_many_numbers) .none kV4 dc4 pm4 an4 cd4 ct4), sl4⟩)
    (c4 : PySem.W.codeIn K cd4 "how_many_numbers" = true)
    (k4 : PySem.W.keepIn K (.ref f4) = true)
    (a5 : PySem.W.nsIn K mainGlobals "turned" = some (some (.ref f5)))
    (l5 : K.lookup f5 = some ⟨oc5, od5, .func (PySem.W.fnOf "turned" "turned" (defArgs s_turned) (defBody s_turned) (defScope s_turned) .none kV5 dc5 pm5 an5 cd5 ct5), sl5⟩)
    (c5 : PySem.W.codeIn K cd5 "turned" = true)
    (k5 : PySem.W.keepIn K (.ref f5) = true)
    (a6 : PySem.W.nsIn K mainGlobals "reflected_word" = some (some (.ref f6)))
    (l6 : K.lookup f6 = some ⟨oc6, od6, .func (PySem.W.fnOf "reflected_word" "reflected_word" (defArgs s_reflected_word) (defBody s_reflected_word) (defScope s_reflected_word) .none kV6 dc6 pm6 an6 cd6 ct6), sl6⟩)
    (c6 : PySem.W.codeIn K cd6 "reflected_word" = true)
    (k6 : PySem.W.keepIn K (.ref f6) = true)
    (a7 : PySem.W.nsIn K mainGlobals "shifted_word" = some (some (.ref f7)))
    (l7 : K.lookup f7 = some ⟨oc7, od7, .func (PySem.W.fnOf "shifted_word" "shifted_word" (defArgs s_shifted_word) (defBody s_shifted_word) (defScope s_shifted_word) .none kV7 dc7 pm7 an7 cd7 ct7), sl7⟩)
    (c7 : PySem.W.codeIn K cd7 "shifted_word" = true)
    (k7 : PySem.W.keepIn K (.ref f7) = true)
    (a8 : PySem.W.nsIn K mainGlobals "shifted_longest" = some (some (.ref f8)))
    (l8 : K.lookup f8 = some ⟨oc8, od8, .func (PySem.W.fnOf "shifted_longest" "shifted_longest" (defArgs s_shifted_longest) (defBody s_shifted_longest) (defScope s_shifted_longest) .none kV8 dc8 pm8 an8 cd8 ct8), sl8⟩)
    (c8 : PySem.W.codeIn K cd8 "shifted_longest" = true)
    (k8 : PySem.W.keepIn K (.ref f8) = true)
    (a9 : PySem.W.nsIn K mainGlobals "row_of_moves" = some (some (.ref f9)))
    (l9 : K.lookup f9 = some ⟨oc9, od9, .func (PySem.W.fnOf "row_of_moves" "row_of_moves" (defArgs s_row_of_moves) (defBody s_row_of_moves) (defScope s_row_of_moves) .none kV9 dc9 pm9 an9 cd9 ct9), sl9⟩)
    (c9 : PySem.W.codeIn K cd9 "row_of_moves" = true)
    (k9 : PySem.W.keepIn K (.ref f9) = true)
    (a10 : PySem.W.nsIn K mainGlobals "reflected_chart" = some (some (.ref f10)))
    (l10 : K.lookup f10 = some ⟨oc10, od10, .func (PySem.W.fnOf "reflected_chart" "reflected_chart" (defArgs s_reflected_chart) (defBody s_reflected_chart) (defScope s_reflected_chart) .none kV10 dc10 pm10 an10 cd10 ct10), sl10⟩)
    (c10 : PySem.W.codeIn K cd10 "reflected_chart" = true)
    (k10 : PySem.W.keepIn K (.ref f10) = true)
    (a11 : PySem.W.nsIn K mainGlobals "shifted_chart" = some (some (.ref f11)))
    (l11 : K.lookup f11 = some ⟨oc11, od11, .func (PySem.W.fnOf "shifted_chart" "shifted_chart" (defArgs s_shifted_chart) (defBody s_shifted_chart) (defScope s_shifted_chart) .none kV11 dc11 pm11 an11 cd11 ct11), sl11⟩)
    (c11 : PySem.W.codeIn K cd11 "shifted_chart" = true)
    (k11 : PySem.W.keepIn K (.ref f11) = true)
    (a12 : PySem.W.nsIn K mainGlobals "_law_box" = some (some (.ref f12)))
    (l12 : K.lookup f12 = some ⟨oc12, od12, .func (PySem.W.fnOf "_law_box" "_law_box" (defArgs s_L_box) (defBody s_L_box) (defScope s_L_box) .none kV12 dc12 pm12 an12 cd12 ct12), sl12⟩)
    (c12 : PySem.W.codeIn K cd12 "_law_box" = true)
    (k12 : PySem.W.keepIn K (.ref f12) = true)
    (a13 : PySem.W.nsIn K mainGlobals "_law_take" = some (some (.ref f13)))
    (l13 : K.lookup f13 = some ⟨oc13, od13, .func (PySem.W.fnOf "_law_take" "_law_take" (defArgs s_L_take) (defBody s_L_take) (defScope s_L_take) .none kV13 dc13 pm13 an13 cd13 ct13), sl13⟩)
    (c13 : PySem.W.codeIn K cd13 "_law_take" = true)
    (k13 : PySem.W.keepIn K (.ref f13) = true)
    (a14 : PySem.W.nsIn K mainGlobals "_law_cells" = some (some (.ref f14)))
    (l14 : K.lookup f14 = some ⟨oc14, od14, .func (PySem.W.fnOf "_law_cells" "_law_cells" (defArgs s_L_cells) (defBody s_L_cells) (defScope s_L_cells) .none kV14 dc14 pm14 an14 cd14 ct14), sl14⟩)
    (c14 : PySem.W.codeIn K cd14 "_law_cells" = true)
    (k14 : PySem.W.keepIn K (.ref f14) = true)
    (a15 : PySem.W.nsIn K mainGlobals "_law_same" = some (some (.ref f15)))
    (l15 : K.lookup f15 = some ⟨oc15, od15, .func (PySem.W.fnOf "_law_same" "_law_same" (defArgs s_L_same) (defBody s_L_same) (defScope s_L_same) .none kV15 dc15 pm15 an15 cd15 ct15), sl15⟩)
    (c15 : PySem.W.codeIn K cd15 "_law_same" = true)
    (k15 : PySem.W.keepIn K (.ref f15) = true)
    (a16 : PySem.W.nsIn K mainGlobals "_law_words" = some (some (.ref f16)))
    (l16 : K.lookup f16 = some ⟨oc16, od16, .func (PySem.W.fnOf "_law_words" "_law_words" (defArgs s_L_words) (defBody s_L_words) (defScope s_L_words) .none kV16 dc16 pm16 an16 cd16 ct16), sl16⟩)
    (c16 : PySem.W.codeIn K cd16 "_law_words" = true)
    (k16 : PySem.W.keepIn K (.ref f16) = true)
    (a17 : PySem.W.nsIn K mainGlobals "_law_near" = some (some (.ref f17)))
    (l17 : K.lookup f17 = some ⟨oc17, od17, .func (PySem.W.fnOf "_law_near" "_law_near" (defArgs s_L_near) (defBody s_L_near) (defScope s_L_near) .none kV17 dc17 pm17 an17 cd17 ct17), sl17⟩)
    (c17 : PySem.W.codeIn K cd17 "_law_near" = true)
    (k17 : PySem.W.keepIn K (.ref f17) = true)
    (a18 : PySem.W.nsIn K mainGlobals "_law_events" = some (some (.ref f18)))
    (l18 : K.lookup f18 = some ⟨oc18, od18, .func (PySem.W.fnOf "_law_events" "_law_events" (defArgs s_L_events) (defBody s_L_events) (defScope s_L_events) .none kV18 dc18 pm18 an18 cd18 ct18), sl18⟩)
    (c18 : PySem.W.codeIn K cd18 "_law_events" = true)
    (k18 : PySem.W.keepIn K (.ref f18) = true)
    (a19 : PySem.W.nsIn K mainGlobals "_law_inside" = some (some (.ref f19)))
    (l19 : K.lookup f19 = some ⟨oc19, od19, .func (PySem.W.fnOf "_law_inside" "_law_inside" (defArgs s_L_inside) (defBody s_L_inside) (defScope s_L_inside) .none kV19 dc19 pm19 an19 cd19 ct19), sl19⟩)
    (c19 : PySem.W.codeIn K cd19 "_law_inside" = true)
    (k19 : PySem.W.keepIn K (.ref f19) = true)
    (a20 : PySem.W.nsIn K mainGlobals "_law_arcs_good" = some (some (.ref f20)))
    (l20 : K.lookup f20 = some ⟨oc20, od20, .func (PySem.W.fnOf "_law_arcs_good" "_law_arcs_good" (defArgs s_L_arcs_good) (defBody s_L_arcs_good) (defScope s_L_arcs_good) .none kV20 dc20 pm20 an20 cd20 ct20), sl20⟩)
    (c20 : PySem.W.codeIn K cd20 "_law_arcs_good" = true)
    (k20 : PySem.W.keepIn K (.ref f20) = true)
    (a21 : PySem.W.nsIn K mainGlobals "_law_ring_right" = some (some (.ref f21)))
    (l21 : K.lookup f21 = some ⟨oc21, od21, .func (PySem.W.fnOf "_law_ring_right" "_law_ring_right" (defArgs s_L_ring_right) (defBody s_L_ring_right) (defScope s_L_ring_right) .none kV21 dc21 pm21 an21 cd21 ct21), sl21⟩)
    (c21 : PySem.W.codeIn K cd21 "_law_ring_right" = true)
    (k21 : PySem.W.keepIn K (.ref f21) = true)
    (a22 : PySem.W.nsIn K mainGlobals "_law_by_hand_right" = some (some (.ref f22)))
    (l22 : K.lookup f22 = some ⟨oc22, od22, .func (PySem.W.fnOf "_law_by_hand_right" "_law_by_hand_right" (defArgs s_L_by_hand_right) (defBody s_L_by_hand_right) (defScope s_L_by_hand_right) .none kV22 dc22 pm22 an22 cd22 ct22), sl22⟩)
    (c22 : PySem.W.codeIn K cd22 "_law_by_hand_right" = true)
    (k22 : PySem.W.keepIn K (.ref f22) = true)
    (a23 : PySem.W.nsIn K mainGlobals "_law_case_right" = some (some (.ref f23)))
    (l23 : K.lookup f23 = some ⟨oc23, od23, .func (PySem.W.fnOf "_law_case_right" "_law_case_right" (defArgs s_L_case_right) (defBody s_L_case_right) (defScope s_L_case_right) .none kV23 dc23 pm23 an23 cd23 ct23), sl23⟩)
    (c23 : PySem.W.codeIn K cd23 "_law_case_right" = true)
    (k23 : PySem.W.keepIn K (.ref f23) = true)
    (a24 : PySem.W.nsIn K mainGlobals "_law_right" = some (some (.ref f24)))
    (l24 : K.lookup f24 = some ⟨oc24, od24, .func (PySem.W.fnOf "_law_right" "_law_right" (defArgs s_L_right) (defBody s_L_right) (defScope s_L_right) .none kV24 dc24 pm24 an24 cd24 ct24), sl24⟩)
    (c24 : PySem.W.codeIn K cd24 "_law_right" = true)
    (k24 : PySem.W.keepIn K (.ref f24) = true)
    (a25 : PySem.W.nsIn K mainGlobals "law" = some (some (.ref f25)))
    (l25 : K.lookup f25 = some ⟨oc25, od25, .func (PySem.W.fnOf "law" "law" (defArgs s_law) (defBody s_law) (defScope s_law) .none kV25 dc25 pm25 an25 cd25 ct25), sl25⟩)
    (c25 : PySem.W.codeIn K cd25 "law" = true)
    (k25 : PySem.W.keepIn K (.ref f25) = true)
    (z_len : PySem.W.nsIn K mainGlobals "len" = some none)
    (z_abs : PySem.W.nsIn K mainGlobals "abs" = some none)
    (z_int : PySem.W.nsIn K mainGlobals "int" = some none)
    (z_list : PySem.W.nsIn K mainGlobals "list" = some none)
    (z_tuple : PySem.W.nsIn K mainGlobals "tuple" = some none)
    (z_dict : PySem.W.nsIn K mainGlobals "dict" = some none)
    (z_bool : PySem.W.nsIn K mainGlobals "bool" = some none)
    (z_str : PySem.W.nsIn K mainGlobals "str" = some none)
    (z_range : PySem.W.nsIn K mainGlobals "range" = some none)
    (z_zip : PySem.W.nsIn K mainGlobals "zip" = some none)
    (z_enumerate : PySem.W.nsIn K mainGlobals "enumerate" = some none)
    (z_all : PySem.W.nsIn K mainGlobals "all" = some none)
    (z_isinstance : PySem.W.nsIn K mainGlobals "isinstance" = some none)
    (z_sorted : PySem.W.nsIn K mainGlobals "sorted" = some none)
    (z_min : PySem.W.nsIn K mainGlobals "min" = some none)
    (z_max : PySem.W.nsIn K mainGlobals "max" = some none)
    (z_sum : PySem.W.nsIn K mainGlobals "sum" = some none)
    (z_divmod : PySem.W.nsIn K mainGlobals "divmod" = some none)
    (z_reversed : PySem.W.nsIn K mainGlobals "reversed" = some none)
    (z_set : PySem.W.nsIn K mainGlobals "set" = some none)
    (z_LookupError : PySem.W.nsIn K mainGlobals "LookupError" = some none)
    : ∃ fd : FuncData, (∀ (s : Shared) (v : Value), BindsTo s fd ⟨[v], []⟩ [("_law_script", v)]) ∧ ∀ base : Heap, K.In base → base.Ns mainGlobals mg → FnOk l.prog w K mg base CX0 9 fa fd ["_law_script"] (spLaw K) := by
  have e := hfa.symm.trans (PySem.W.mg_of X G a25)
  cases e
  have FL := fun_mk (st := s_law) l25 c25 k25
  have T : Bt mg := ⟨PySem.W.mg_none_of X G z_len, PySem.W.mg_none_of X G z_abs, PySem.W.mg_none_of X G z_int, PySem.W.mg_none_of X G z_list, PySem.W.mg_none_of X G z_tuple, PySem.W.mg_none_of X G z_dict, PySem.W.mg_none_of X G z_bool, PySem.W.mg_none_of X G z_str, PySem.W.mg_none_of X G z_range, PySem.W.mg_none_of X G z_zip, PySem.W.mg_none_of X G z_enumerate, PySem.W.mg_none_of X G z_all, PySem.W.mg_none_of X G z_isinstance, PySem.W.mg_none_of X G z_sorted, PySem.W.mg_none_of X G z_min, PySem.W.mg_none_of X G z_max, PySem.W.mg_none_of X G z_sum, PySem.W.mg_none_of X G z_divmod, PySem.W.mg_none_of X G z_reversed, PySem.W.mg_none_of X G z_set, PySem.W.mg_none_of X G z_LookupError⟩
  have X0 : Tx K mg "as_tuples" ["value"] s_as_tuples := tx_mk X G a0 l0 c0 k0 fun _ _ _ _ _ _ us hl => match us, hl with | [_], _ => rfl
  have X1 : Tx K mg "in_order" ["things"] s_in_order := tx_mk X G a1 l1 c1 k1 fun _ _ _ _ _ _ us hl => match us, hl with | [_], _ => rfl
  have X2 : Tx K mg "ring_right" ["number", "long"] s_ring_right := tx_mk X G a2 l2 c2 k2 fun _ _ _ _ _ _ us hl => match us, hl with | [_, _], _ => rfl
  have X3 : Tx K mg "ring_longest" ["number"] s_ring_longest := tx_mk X G a3 l3 c3 k3 fun _ _ _ _ _ _ us hl => match us, hl with | [_], _ => rfl
  have X4 : Tx K mg "how_many_numbers" ["sizes"] s_how_many_numbers := tx_mk X G a4 l4 c4 k4 fun _ _ _ _ _ _ us hl => match us, hl with | [_], _ => rfl
  have X5 : Tx K mg "turned" ["value", "many", "rest"] s_turned := tx_mk X G a5 l5 c5 k5 fun _ _ _ _ _ _ us hl => match us, hl with | [_, _, _], _ => rfl
  have X6 : Tx K mg "reflected_word" ["sizes", "number"] s_reflected_word := tx_mk X G a6 l6 c6 k6 fun _ _ _ _ _ _ us hl => match us, hl with | [_, _], _ => rfl
  have X7 : Tx K mg "shifted_word" ["bits", "number"] s_shifted_word := tx_mk X G a7 l7 c7 k7 fun _ _ _ _ _ _ us hl => match us, hl with | [_, _], _ => rfl
  have X8 : Tx K mg "shifted_longest" ["bits"] s_shifted_longest := tx_mk X G a8 l8 c8 k8 fun _ _ _ _ _ _ us hl => match us, hl with | [_], _ => rfl
  have X9 : Tx K mg "row_of_moves" ["wanted"] s_row_of_moves := tx_mk X G a9 l9 c9 k9 fun _ _ _ _ _ _ us hl => match us, hl with | [_], _ => rfl
  have X10 : Tx K mg "reflected_chart" ["sizes", "wanted"] s_reflected_chart := tx_mk X G a10 l10 c10 k10 fun _ _ _ _ _ _ us hl => match us, hl with | [_, _], _ => rfl
  have X11 : Tx K mg "shifted_chart" ["bits", "wanted"] s_shifted_chart := tx_mk X G a11 l11 c11 k11 fun _ _ _ _ _ _ us hl => match us, hl with | [_, _], _ => rfl
  have X12 : Tx K mg "_law_box" ["_law_script", "_law_k"] s_L_box := tx_mk X G a12 l12 c12 k12 fun _ _ _ _ _ _ us hl => match us, hl with | [_, _], _ => rfl
  have X13 : Tx K mg "_law_take" ["_law_tin", "_law_top_so"] s_L_take := tx_mk X G a13 l13 c13 k13 fun _ _ _ _ _ _ us hl => match us, hl with | [_, _], _ => rfl
  have X14 : Tx K mg "_law_cells" ["_law_script", "_law_most"] s_L_cells := tx_mk X G a14 l14 c14 k14 fun _ _ _ _ _ _ us hl => match us, hl with | [_, _], _ => rfl
  have X15 : Tx K mg "_law_same" ["_law_got", "_law_due"] s_L_same := tx_mk X G a15 l15 c15 k15 fun _ _ _ _ _ _ us hl => match us, hl with | [_, _], _ => rfl
  have X16 : Tx K mg "_law_words" ["_law_wide"] s_L_words := tx_mk X G a16 l16 c16 k16 fun _ _ _ _ _ _ us hl => match us, hl with | [_], _ => rfl
  have X17 : Tx K mg "_law_near" ["_law_web", "_law_tag"] s_L_near := tx_mk X G a17 l17 c17 k17 fun _ _ _ _ _ _ us hl => match us, hl with | [_, _], _ => rfl
  have X18 : Tx K mg "_law_events" ["_law_web", "_law_far"] s_L_events := tx_mk X G a18 l18 c18 k18 fun _ _ _ _ _ _ us hl => match us, hl with | [_, _], _ => rfl
  have X19 : Tx K mg "_law_inside" ["_law_web", "_law_group", "_law_spot"] s_L_inside := tx_mk X G a19 l19 c19 k19 fun _ _ _ _ _ _ us hl => match us, hl with | [_, _, _], _ => rfl
  have X20 : Tx K mg "_law_arcs_good" ["_law_web", "_law_far"] s_L_arcs_good := tx_mk X G a20 l20 c20 k20 fun _ _ _ _ _ _ us hl => match us, hl with | [_, _], _ => rfl
  have X21 : Tx K mg "_law_ring_right" ["_law_many"] s_L_ring_right := tx_mk X G a21 l21 c21 k21 fun _ _ _ _ _ _ us hl => match us, hl with | [_], _ => rfl
  have X22 : Tx K mg "_law_by_hand_right" [] s_L_by_hand_right := tx_mk X G a22 l22 c22 k22 fun _ _ _ _ _ _ us hl => match us, hl with | [], _ => rfl
  have X23 : Tx K mg "_law_case_right" ["_law_tin"] s_L_case_right := tx_mk X G a23 l23 c23 k23 fun _ _ _ _ _ _ us hl => match us, hl with | [_], _ => rfl
  have X24 : Tx K mg "_law_right" ["_law_tin"] s_L_right := tx_mk X G a24 l24 c24 k24 fun _ _ _ _ _ _ us hl => match us, hl with | [_], _ => rfl
  have XC : ExcC K C := ⟨hg, hk, hs, hd, ha, hn, ht, hm⟩
  have OW : ∃ (B newId initId : String) (bmB : List Value), OwnE K C B newId initId bmB := ⟨_, _, _, _, ⟨PySem.F.excBase_LookupError, PySem.F.store_LookupError, md, ov, sa, hd, kC⟩⟩
  have FI := fun_mk (st := initN) lk cd kf
  refine ⟨_, fun s v => .of_eq rfl, fun base _ _ => FL.ok sc_law (fun vs H Q E h => ?_) ?_⟩
  · obtain ⟨a, ns, rfl, _⟩ := h
    rfl
  have NN : Ne l.prog w K mg base "NoNumber" "number" C := ⟨PySem.W.mg_of X G aC, OW, XC, ⟨_, _, ic, ti, ok_iN FI, FI.binds fun _ _ _ _ _ _ us hl => match us, hl with | [_, _], _ => rfl⟩, hs, r2, tk, nf, ex, ki⟩
  have D_as := ok_As (P := l.prog) (w := w) (base := base) X0 T 3
  have D_ord := ok_Ord (P := l.prog) (w := w) (base := base) X1 T 
  have D_rr := ok_RR (P := l.prog) (w := w) (base := base) X2 T 
  have D_rl := ok_RL (P := l.prog) (w := w) (base := base) X3 T 
  have D_sl := ok_SL (P := l.prog) (w := w) (base := base) X8 T D_rl
  have D_row := ok_Row (P := l.prog) (w := w) (base := base) X9 T 
  have D_prod := ok_Prod (P := l.prog) (w := w) (base := base) X4 T 
  have D_turn := ok_Turn (P := l.prog) (w := w) (base := base) X5 T 
  have D_word := ok_Word (P := l.prog) (w := w) (base := base) X6 T NN D_prod D_turn
  have D_sword := ok_SWord (P := l.prog) (w := w) (base := base) X7 T NN
  have D_rc := ok_RC (P := l.prog) (w := w) (base := base) NN.rs X10 T D_word D_as D_row
  have D_sc := ok_SC (P := l.prog) (w := w) (base := base) NN.rs X11 T D_sword D_row D_ord
  have D_take := ok_take (P := l.prog) (w := w) (base := base) X13 T 
  have D_box := ok_box (P := l.prog) (w := w) (base := base) X12 T 
  have D_cells := ok_cells (P := l.prog) (w := w) (base := base) X14 T 
  have D_same0 := ok_same (P := l.prog) (w := w) (base := base) X15 T 5
  have D_same := D_same0.imp (spF_of (fn := fnSame 5) fun ds r _ h => fnSame_dom h)
  have D_ws := ok_Ws (P := l.prog) (w := w) (base := base) X16 T 
  have D_near := ok_Near (P := l.prog) (w := w) (base := base) X17 T 
  have D_ev := ok_Ev (P := l.prog) (w := w) (base := base) X18 T D_near
  have D_ins := ok_Ins (P := l.prog) (w := w) (base := base) X19 T 
  have D_arcs := ok_Arcs (P := l.prog) (w := w) (base := base) X20 T D_ev D_ws D_ins
  have D_ring := ok_Ring (P := l.prog) (w := w) (base := base) NN.rs X21 T D_sc D_sl D_rl D_rr D_arcs
  have D_hand0 := ok_Hand (P := l.prog) (w := w) (base := base) NN.rs X22 T D_sc D_rc D_arcs D_same D_ring
  have D_hand := D_hand0.imp (sp' := spD K 0 fun ds r => ds = [] ∧ r = .bool true) fun vs H Q E ⟨hl, Hd, ds, r, e, hd, ⟨h1, h2⟩, q⟩ => ⟨hl, Hd, ds, r, e, hd, ⟨by rw [h1]; rfl, by rw [h1, h2]; exact isT_of (hand_run NN.rs)⟩, q⟩
  have D_case := ok_case (P := l.prog) (w := w) (base := base) NN.rs X23 T D_take D_ring
  have D_right := ok_right (P := l.prog) (w := w) (base := base) X24 T D_case
  exact body_law T D_hand D_cells D_box D_right _
end Law

open PySem PySem.W PyProof.Rows
set_option maxHeartbeats 0 in
theorem PySem.Challenge.cw_oldornew_k75_how_long_looks_at_shifted_r_holds : PySem.Challenge.rw_oldornew_k75_how_long_looks_at_shifted_r.Holds := by
  w_on; o_law; k_head; (case hw => w_witness2)
  k_fill
  refine L2.walk_of (l := PySem.Challenge.rw_oldornew_k75_how_long_looks_at_shifted_r) (n := 63) (k := 9) (x := "_law_script") (CX := fun _ => L2.CX0) (sp := fun w => Law.spLaw _) rfl (by decide) rfl ⟨rfl, by decide, by decide⟩ (fun w h Y => PySem.W.kIn_of Y) ?F (fun _ _ a ns hl _ hS => ⟨a, ns, rfl, hS, hl, fun _ => rfl⟩) (fun _ _ _ _ _ h => h)
  case F =>
    intro w mg fa h KX G hmg
    refine' Law.all_mk KX G hmg ?aC ?md ?kC ?hg ?hk ?hs ?hd ?ha ?hm ?ov ?sa ?ic ?ti ?lk ?cd ?kf ?hn ?ht ?r2 ?tk ?nf ?ex ?ki ?a0 ?l0 ?c0 ?k0 ?a1 ?l1 ?c1 ?k1 ?a2 ?l2 ?c2 ?k2 ?a3 ?l3 ?c3 ?k3 ?a4 ?l4 ?c4 ?k4 ?a5 ?l5 ?c5 ?k5 ?a6 ?l6 ?c6 ?k6 ?a7 ?l7 ?c7 ?k7 ?a8 ?l8 ?c8 ?k8 ?a9 ?l9 ?c9 ?k9 ?a10 ?l10 ?c10 ?k10 ?a11 ?l11 ?c11 ?k11 ?a12 ?l12 ?c12 ?k12 ?a13 ?l13 ?c13 ?k13 ?a14 ?l14 ?c14 ?k14 ?a15 ?l15 ?c15 ?k15 ?a16 ?l16 ?c16 ?k16 ?a17 ?l17 ?c17 ?k17 ?a18 ?l18 ?c18 ?k18 ?a19 ?l19 ?c19 ?k19 ?a20 ?l20 ?c20 ?k20 ?a21 ?l21 ?c21 ?k21 ?a22 ?l22 ?c22 ?k22 ?a23 ?l23 ?c23 ?k23 ?a24 ?l24 ?c24 ?k24 ?a25 ?l25 ?c25 ?k25 ?z_len ?z_abs ?z_int ?z_list ?z_tuple ?z_dict ?z_bool ?z_str ?z_range ?z_zip ?z_enumerate ?z_all ?z_isinstance ?z_sorted ?z_min ?z_max ?z_sum ?z_divmod ?z_reversed ?z_set ?z_LookupError
    (case aC => k_is); (case md => kx_is); (case kC => k_is); (case hg => k_is); (case hk => k_is); (case hs => k_is); (case hd => k_is); (case ha => k_is); (case hm => k_is); (case ov => kx_is); (case sa => k_is); (case ic => k_is); (case ti => k_is); (case lk => k_is); (case cd => k_is); (case kf => k_is); (case hn => k_is); (case ht => k_is); (case r2 => k_is); (case tk => k_is); (case nf => k_is); (case ex => kts_exm); (case ki => kit_is); (case a0 => k_is); (case l0 => k_is); (case c0 => k_is); (case k0 => k_is); (case a1 => k_is); (case l1 => k_is); (case c1 => k_is); (case k1 => k_is); (case a2 => k_is); (case l2 => k_is); (case c2 => k_is); (case k2 => k_is); (case a3 => k_is); (case l3 => k_is); (case c3 => k_is); (case k3 => k_is); (case a4 => k_is); (case l4 => k_is); (case c4 => k_is); (case k4 => k_is); (case a5 => k_is); (case l5 => k_is); (case c5 => k_is); (case k5 => k_is); (case a6 => k_is); (case l6 => k_is); (case c6 => k_is); (case k6 => k_is); (case a7 => k_is); (case l7 => k_is); (case c7 => k_is); (case k7 => k_is); (case a8 => k_is); (case l8 => k_is); (case c8 => k_is); (case k8 => k_is); (case a9 => k_is); (case l9 => k_is); (case c9 => k_is); (case k9 => k_is); (case a10 => k_is); (case l10 => k_is); (case c10 => k_is); (case k10 => k_is); (case a11 => k_is); (case l11 => k_is); (case c11 => k_is); (case k11 => k_is); (case a12 => k_is); (case l12 => k_is); (case c12 => k_is); (case k12 => k_is); (case a13 => k_is); (case l13 => k_is); (case c13 => k_is); (case k13 => k_is); (case a14 => k_is); (case l14 => k_is); (case c14 => k_is); (case k14 => k_is); (case a15 => k_is); (case l15 => k_is); (case c15 => k_is); (case k15 => k_is); (case a16 => k_is); (case l16 => k_is); (case c16 => k_is); (case k16 => k_is); (case a17 => k_is); (case l17 => k_is); (case c17 => k_is); (case k17 => k_is); (case a18 => k_is); (case l18 => k_is); (case c18 => k_is); (case k18 => k_is); (case a19 => k_is); (case l19 => k_is); (case c19 => k_is); (case k19 => k_is); (case a20 => k_is); (case l20 => k_is); (case c20 => k_is); (case k20 => k_is); (case a21 => k_is); (case l21 => k_is); (case c21 => k_is); (case k21 => k_is); (case a22 => k_is); (case l22 => k_is); (case c22 => k_is); (case k22 => k_is); (case a23 => k_is); (case l23 => k_is); (case c23 => k_is); (case k23 => k_is); (case a24 => k_is); (case l24 => k_is); (case c24 => k_is); (case k24 => k_is); (case a25 => k_is); (case l25 => k_is); (case c25 => k_is); (case k25 => k_is); (case z_len => k_is); (case z_abs => k_is); (case z_int => k_is); (case z_list => k_is); (case z_tuple => k_is); (case z_dict => k_is); (case z_bool => k_is); (case z_str => k_is); (case z_range => k_is); (case z_zip => k_is); (case z_enumerate => k_is); (case z_all => k_is); (case z_isinstance => k_is); (case z_sorted => k_is); (case z_min => k_is); (case z_max => k_is); (case z_sum => k_is); (case z_divmod => k_is); (case z_reversed => k_is); (case z_set => k_is); (case z_LookupError => k_is)
