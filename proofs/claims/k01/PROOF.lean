import PyProof.Rows.All
import Wide.All
import OpenK.AllK
import Wide.FinOn
import PyProof.EqAt
import PyProof.EqKinds
import PyProof.TupleCall
import HandS.ForMost
import HandS.IsInst
import HandS.TupAny
import HandS.Strs
import PySem.Challenge.RW_turnshelves_k01_order_of_values
set_option Elab.async false
set_option linter.all false
set_option maxRecDepth 100000
/-! defs by name; what a drawer leaves -/
namespace Ow
open PySem PySem.Spec PyProof.Rows L2

/-- the def that the module's name x holds keeps sp, by k levels -/
structure Kn (P : Program) (w : World) (K : PySem.W.Frag) (mg : Str → Option Value) (base : Heap)
    (k : Nat) (x : Str) (ps : List Str) (sp : Sp) : Prop where
  ex : ∃ f fd, FnOk P w K mg base CX0 k f fd ps sp ∧ mg x = some (.ref f) ∧
    PySem.W.keepIn K (.ref f) = true ∧ Binds K fd ps []

theorem pe_kn {X : Cx} {k j : Nat} {x : Str} {ps : List Str} {sp : Sp} {p pos : Pos} {e : Expr}
    {es : List Expr} {t : TA} (c : Kn X.prog X.w X.K X.mg X.base k x ps sp) (hr : Room j X.A)
    (ha : PA X (e :: es) t) (hk : k ≤ j := by decide) (hg : Gl X x := by rfl)
    (hdb : (x == ("__debug__" : Str)) = false := by decide)
    (he : starEach (e :: es) X.env = (false, eval e X.env) :: starEach es X.env := by rfl)
    (hpl : (backTo pos (starEach es X.env)).any (·.1) = false := by rfl) :
    PE X (.Call (.Name x p) (e :: es) [] pos) (tCall sp [] E0 t) := by
  obtain ⟨f, fd, F, gm, kp, b⟩ := c.ex
  exact pe_call F (hr.mono hk) hg gm kp b .nil pass0 ha hdb he hpl

theorem hu64 {k : Nat} {A : Around} (hr : Room k A) : A.units + 64 < cLine := hr.units

/-- the heap but for what stands at p -/
def Gw (p : Addr) (H H' : Hp) : Prop := ∀ b o, b ≠ p → H b = some o → H' b = some o
theorem Gw.refl (p : Addr) (H : Hp) : Gw p H H := fun _ _ _ e => e
theorem Gw.trans {p : Addr} {H H1 H2 : Hp} (a : Gw p H H1) (b : Gw p H1 H2) : Gw p H H2 :=
  fun c o n e => b c o n (a c o n e)
theorem Gw.new {p q : Addr} {H : Hp} {o : HO} (n : H q = none) : Gw p H (upd H q o) :=
  fun b u _ e => by rw [upd_ne (ne_of_none e n)]; exact e
theorem Gw.put {p : Addr} {H : Hp} {o : HO} : Gw p H (upd H p o) :=
  fun b u nb e => by rw [upd_ne nb]; exact e
theorem Gw.same {p : Addr} {H H' : Hp} (s : Same H H') : Gw p H H' := fun b o _ e => s b o e
theorem Same.new {q : Addr} {H : Hp} {o : HO} (n : H q = none) : Same H (upd H q o) :=
  fun b u e => by rw [upd_ne (ne_of_none e n)]; exact e

/-- what a drawer keeps at p: its numbers (at d) and its place -/
def Rng (d : Addr) (H : Hp) (p : Addr) : Prop := ∃ (ds : List Int) (k : Int),
  H p = some (.lst [.ref d, .int k]) ∧ 0 ≤ k ∧ H d = some (.lst (ds.map V.int))
theorem Rng.ne {H : Hp} {p d : Addr} {k : Int} {ds : List Int} (h : H p = some (.lst [.ref d, .int k]))
    (g : H d = some (.lst (ds.map V.int))) : d ≠ p := by
  intro e
  subst e
  rw [h] at g
  injection g with g
  injection g with g
  cases ds with
  | nil => cases g
  | cons a r =>
    rw [List.map_cons] at g
    injection g with g1 _
    cases g1
theorem Rng.same {H H' : Hp} {p d : Addr} (r : Rng d H p) (s : Same H H') : Rng d H' p := by
  obtain ⟨ds, k, h, z, g⟩ := r
  exact ⟨ds, k, s _ _ h, z, s _ _ g⟩
theorem Rng.free {H : Hp} {p d q : Addr} (r : Rng d H p) (n : H q = none) : q ≠ p ∧ q ≠ d := by
  obtain ⟨ds, k, h, _, g⟩ := r
  exact ⟨(ne_of_none h n).symm, (ne_of_none g n).symm⟩
theorem Rng.upd {H : Hp} {p d q : Addr} {o : HO} (r : Rng d H p) (n : q ≠ p ∧ q ≠ d) : Rng d (L2.upd H q o) p := by
  obtain ⟨ds, k, h, z, g⟩ := r
  exact ⟨ds, k, by rw [upd_ne n.1.symm]; exact h, z, by rw [upd_ne n.2.symm]; exact g⟩

/-- a call that draws from p: whatever x it hands back, of which R tells -/
def Drw (p d : Addr) (H : Hp) (Q : VK) (R : V → Hp → Prop) : Prop :=
  ∀ x H', R x H' → Gw p H H' → Rng d H' p → Q x H'
theorem Gw.over {p o : Addr} {H H' : Hp} {u : HO} (g : Gw p H H') (n : H o = none) : Gw p H (upd H' o u) :=
  fun b x nb e => by rw [upd_ne (ne_of_none e n)]; exact g b x nb e
theorem Same.over {o : Addr} {H H' : Hp} {u : HO} (g : Same H H') (n : H o = none) : Same H (upd H' o u) :=
  fun b x e => by rw [upd_ne (ne_of_none e n)]; exact g b x e
theorem Gw.keep {p q : Addr} {H H' : Hp} {o : HO} (g : Gw p H H') (h : H q = some o) (n : q ≠ p) : H' q = some o := g q o n h
/-- what is free behind was free before -/
theorem Gw.free {p q : Addr} {H H' : Hp} (g : Gw p H H') (n : H' q = none) (ne : q ≠ p) : H q = none := by
  cases z : H q with
  | none => rfl
  | some o =>
    rw [g q o ne z] at n
    cases n
theorem small {n m : Nat} (h : n ≤ m) (hm : m ≤ 10000) : n < sizeLine :=
  Nat.lt_of_le_of_lt (Nat.le_trans h hm) (by decide)
end Ow
namespace Ow
open PySem PySem.Spec PyProof.Rows L2
theorem pget_list {X : Cx} : PGet X (rIxL X.K) := by
  intro pins s σ H o i ov iv Q I ro ri h
  obtain ⟨p, xs, n, v, rfl, rfl, hs, ha, q⟩ := h
  cases ro
  obtain ⟨t, rfl⟩ := ri
  obtain ⟨its, r, pl, hz⟩ := I.list hs
  obtain ⟨j, h1, h2, h3, h4, h5⟩ := atI_get ha
  obtain ⟨u, eu, ru⟩ := r.get h2
  have ln := line63
  have hl := r.length
  by_cases h0 : 0 ≤ n
  · have ej : n.toNat = j := by
      rw [seqIndex_of h0 h5] at h1
      exact Option.some.inj h1
    exact wpAny_getItem_list pl.isList h0 (by omega) (by rw [ej]; simpa using eu) ⟨v, H, I, ru, q⟩
  · have ej : (n + (its.toArray.size : Int)).toNat = j := by
      rw [seqIndex_neg (by omega) h4] at h1
      rw [List.size_toArray, ← hl]
      exact Option.some.inj h1
    exact wpAny_getItem_list_neg pl.isList (by omega) (by rw [List.size_toArray]; omega) (by omega)
      (by rw [ej]; simpa using eu) ⟨v, H, I, ru, q⟩
theorem at_in {α : Type} {xs : List α} {v : Int} (h0 : 0 ≤ v) (h1 : v < xs.length) : ∃ y, atI xs v = some y ∧ y ∈ xs := by
  have h : v.toNat < xs.length := by omega
  have e : v = ((v.toNat : Nat) : Int) := by omega
  refine ⟨xs[v.toNat], ?_, List.getElem_mem h⟩
  have z := atI_nat (xs := xs) (j := v.toNat) (List.getElem?_eq_getElem h)
  rw [← e] at z
  exact z
end Ow
/-! tuples of data compared by < and >: only the places up to the first unequal pair are asked. -/
namespace Tlz
open PySem PySem.SeqAt PySem.MeetsSeq PySem.MeetsSeq2 PySem.MeetsSeq3
open PySem.AutoSeq1 (wpAny_loadPart')

/-- x op y gives the answer k and leaves the state -/
def Rc (op : CmpOp) (A : Around) (s : Shared) (x y : Value) (k : Bool) : Prop :=
  ∀ (P : Program) (w : World) (E Q : Value → Shared → Prop), Q (.bool k) s →
    wpAny (model P w) A (richCompare op x y) Q E s

/-- the first of the next k places, from i on, that differs tells; fin if none does -/
def scan (eq ans : Nat → Bool) (fin : Bool) (i : Nat) : Nat → Bool
  | 0 => fin
  | k + 1 => cond (eq i) (scan eq ans fin (i + 1) k) (ans i)

theorem scan_eq {eq ans : Nat → Bool} {fin : Bool} {i k : Nat} (h : eq i = true) :
    scan eq ans fin i (k + 1) = scan eq ans fin (i + 1) k := by
  show cond (eq i) _ _ = _
  rw [h]; rfl
theorem scan_ne {eq ans : Nat → Bool} {fin : Bool} {i k : Nat} (h : eq i = false) :
    scan eq ans fin i (k + 1) = ans i := by
  show cond (eq i) _ _ = _
  rw [h]; rfl

theorem ltBody (a b : Addr) (us vs : Array Value) (n m : Nat) (da db : Option Addr)
    (sa sb : Array (Option Value)) (eq ans : Nat → Bool) :
    Meets (Builtin.«tuple.__lt__» ⟨[.ref a, .ref b], []⟩) (fun A R s =>
      s.heap.get? a = some ⟨.type "tuple", da, .seq us n, sa⟩ ∧
      s.heap.get? b = some ⟨.type "tuple", db, .seq vs m, sb⟩ ∧
      (∀ j (p : j < us.size) (q : j < vs.size), EqAt A.in1 s us[j] vs[j] (eq j)) ∧
      (∀ j (p : j < us.size) (q : j < vs.size), (∀ i, i < j → eq i = true) → eq j = false →
        Rc .Lt A.in1 s us[j] vs[j] (ans j)) ∧
      R (.ok (.ret (.bool (scan eq ans (decide (us.size < vs.size)) 0 (min us.size vs.size))))) s) :=
  .of_wp fun P w A R s ⟨ha, hb, he, hr, h⟩ => by
    obtain ⟨hp, g, d, tk, os⟩ := s
    have sub := AutoSeq1.sub_tuple_tuple
    have len : (us.toList.zip vs.toList).length = min us.size vs.size := by simp
    wp_walk using wpAny_loadPart' ha, wpAny_loadPart' hb, wpAny_forIn_list _ (fun rest c s' => c.1 = none ∧
      s' = ⟨hp, g, d, tk, os⟩ ∧ ∃ i, rest = (us.toList.zip vs.toList).drop i ∧ (∀ z, z < i → eq z = true) ∧
      R (.ok (.ret (.bool (scan eq ans (decide (us.size < vs.size)) i (min us.size vs.size - i))))) s') _
    case turn =>
      rintro ⟨y, x⟩ rest c s' ⟨hc, rfl, i, hz, pre, hR⟩
      have hi : i < min us.size vs.size := by
        rw [← len]
        apply Nat.lt_of_not_le
        intro z
        rw [List.drop_of_length_le z] at hz
        cases hz
      have p : i < us.size := by omega
      have q : i < vs.size := by omega
      rw [List.drop_eq_getElem_cons (by rw [len]; exact hi)] at hz
      injection hz with e1 e2
      have ey : y = us[i] := by simpa using congrArg Prod.fst e1
      have ex : x = vs[i] := by simpa using congrArg Prod.snd e1
      subst ey ex
      have cut : min us.size vs.size - i = min us.size vs.size - (i + 1) + 1 := by omega
      rw [cut] at hR
      refine wpAny_bind (he i p q P w _ _ ?_)
      by_cases k : eq i = true
      · rw [scan_eq k] at hR
        rw [k]
        wp_walk
        refine ⟨rfl, rfl, i + 1, e2, fun z hz => ?_, hR⟩
        by_cases t : z = i
        · rw [t]; exact k
        · exact pre z (by omega)
      · have k' : eq i = false := by simpa using k
        rw [scan_ne k'] at hR
        have r := hr i p q pre k' P w
        rw [k']
        wp_walk using r
        exact ⟨_, rfl, by simpa using hR⟩
    case fin =>
      rintro ⟨c1, c2⟩ s' ⟨hc, rfl, i, hz, pre, hR⟩
      have hc' : c1 = none := hc
      subst hc'
      have hi : min us.size vs.size ≤ i := by
        apply Nat.le_of_not_lt
        intro z
        rw [List.drop_eq_getElem_cons (by rw [len]; exact z)] at hz
        cases hz
      rw [Nat.sub_eq_zero_of_le hi] at hR
      wp_walk
      exact ⟨_, rfl, by simpa [Builtin.Tuple.tupleCompareSizes, scan] using hR⟩
    case h => exact ⟨rfl, rfl, 0, rfl, fun _ z => absurd z (Nat.not_lt_zero _), by simpa using h⟩

theorem gtBody (a b : Addr) (us vs : Array Value) (n m : Nat) (da db : Option Addr)
    (sa sb : Array (Option Value)) (eq ans : Nat → Bool) :
    Meets (Builtin.«tuple.__gt__» ⟨[.ref a, .ref b], []⟩) (fun A R s =>
      s.heap.get? a = some ⟨.type "tuple", da, .seq us n, sa⟩ ∧
      s.heap.get? b = some ⟨.type "tuple", db, .seq vs m, sb⟩ ∧
      (∀ j (p : j < us.size) (q : j < vs.size), EqAt A.in1 s us[j] vs[j] (eq j)) ∧
      (∀ j (p : j < us.size) (q : j < vs.size), (∀ i, i < j → eq i = true) → eq j = false →
        Rc .Gt A.in1 s us[j] vs[j] (ans j)) ∧
      R (.ok (.ret (.bool (scan eq ans (decide (us.size > vs.size)) 0 (min us.size vs.size))))) s) :=
  .of_wp fun P w A R s ⟨ha, hb, he, hr, h⟩ => by
    obtain ⟨hp, g, d, tk, os⟩ := s
    have sub := AutoSeq1.sub_tuple_tuple
    have len : (us.toList.zip vs.toList).length = min us.size vs.size := by simp
    wp_walk using wpAny_loadPart' ha, wpAny_loadPart' hb, wpAny_forIn_list _ (fun rest c s' => c.1 = none ∧
      s' = ⟨hp, g, d, tk, os⟩ ∧ ∃ i, rest = (us.toList.zip vs.toList).drop i ∧ (∀ z, z < i → eq z = true) ∧
      R (.ok (.ret (.bool (scan eq ans (decide (us.size > vs.size)) i (min us.size vs.size - i))))) s') _
    case turn =>
      rintro ⟨y, x⟩ rest c s' ⟨hc, rfl, i, hz, pre, hR⟩
      have hi : i < min us.size vs.size := by
        rw [← len]
        apply Nat.lt_of_not_le
        intro z
        rw [List.drop_of_length_le z] at hz
        cases hz
      have p : i < us.size := by omega
      have q : i < vs.size := by omega
      rw [List.drop_eq_getElem_cons (by rw [len]; exact hi)] at hz
      injection hz with e1 e2
      have ey : y = us[i] := by simpa using congrArg Prod.fst e1
      have ex : x = vs[i] := by simpa using congrArg Prod.snd e1
      subst ey ex
      have cut : min us.size vs.size - i = min us.size vs.size - (i + 1) + 1 := by omega
      rw [cut] at hR
      refine wpAny_bind (he i p q P w _ _ ?_)
      by_cases k : eq i = true
      · rw [scan_eq k] at hR
        rw [k]
        wp_walk
        refine ⟨rfl, rfl, i + 1, e2, fun z hz => ?_, hR⟩
        by_cases t : z = i
        · rw [t]; exact k
        · exact pre z (by omega)
      · have k' : eq i = false := by simpa using k
        rw [scan_ne k'] at hR
        have r := hr i p q pre k' P w
        rw [k']
        wp_walk using r
        exact ⟨_, rfl, by simpa using hR⟩
    case fin =>
      rintro ⟨c1, c2⟩ s' ⟨hc, rfl, i, hz, pre, hR⟩
      have hc' : c1 = none := hc
      subst hc'
      have hi : min us.size vs.size ≤ i := by
        apply Nat.le_of_not_lt
        intro z
        rw [List.drop_eq_getElem_cons (by rw [len]; exact z)] at hz
        cases hz
      rw [Nat.sub_eq_zero_of_le hi] at hR
      wp_walk
      exact ⟨_, rfl, by simpa [Builtin.Tuple.tupleCompareSizes, scan] using hR⟩
    case h => exact ⟨rfl, rfl, 0, rfl, fun _ z => absurd z (Nat.not_lt_zero _), by simpa using h⟩

theorem Rc.tupLt {A : Around} {s : Shared} {a b : Addr} {us vs : Array Value} {eq ans : Nat → Bool}
    (ta : s.heap.IsTuple a us) (tb : s.heap.IsTuple b vs) (hu : A.units < cLine)
    (he : ∀ j (p : j < us.size) (q : j < vs.size), EqAt A.in1 s us[j] vs[j] (eq j))
    (hr : ∀ j (p : j < us.size) (q : j < vs.size), (∀ i, i < j → eq i = true) → eq j = false →
      Rc .Lt A.in1 s us[j] vs[j] (ans j)) :
    Rc .Lt A s (.ref a) (.ref b) (scan eq ans (decide (us.size < vs.size)) 0 (min us.size vs.size)) := by
  intro P w E Q h
  obtain ⟨⟨c1, da, t1, sa⟩, ga, ca, n, ea⟩ := id ta
  obtain ⟨⟨c2, db, t2, sb⟩, gb, cb, m, eb⟩ := id tb
  have ca1 : c1 = Value.type "tuple" := ca
  have cb1 : c2 = Value.type "tuple" := cb
  have ea1 : t1 = .seq us n := ea
  have eb1 : t2 = .seq vs m := eb
  subst ca1 cb1 ea1 eb1
  exact richCompare_meets_room (op := .Lt) ⟨_, ga, rfl⟩ ⟨_, gb, rfl⟩ F.slot_tuple_lt F.entry_tuple_lt
    (F.args_tuple_lt_2 _ _) (ltBody a b us vs n m da db sa sb eq ans)
    ⟨ga, gb, he, hr, fun z => (nomatch z), h⟩ hu

theorem Rc.tupGt {A : Around} {s : Shared} {a b : Addr} {us vs : Array Value} {eq ans : Nat → Bool}
    (ta : s.heap.IsTuple a us) (tb : s.heap.IsTuple b vs) (hu : A.units < cLine)
    (he : ∀ j (p : j < us.size) (q : j < vs.size), EqAt A.in1 s us[j] vs[j] (eq j))
    (hr : ∀ j (p : j < us.size) (q : j < vs.size), (∀ i, i < j → eq i = true) → eq j = false →
      Rc .Gt A.in1 s us[j] vs[j] (ans j)) :
    Rc .Gt A s (.ref a) (.ref b) (scan eq ans (decide (us.size > vs.size)) 0 (min us.size vs.size)) := by
  intro P w E Q h
  obtain ⟨⟨c1, da, t1, sa⟩, ga, ca, n, ea⟩ := id ta
  obtain ⟨⟨c2, db, t2, sb⟩, gb, cb, m, eb⟩ := id tb
  have ca1 : c1 = Value.type "tuple" := ca
  have cb1 : c2 = Value.type "tuple" := cb
  have ea1 : t1 = .seq us n := ea
  have eb1 : t2 = .seq vs m := eb
  subst ca1 cb1 ea1 eb1
  exact richCompare_meets_room (op := .Gt) ⟨_, ga, rfl⟩ ⟨_, gb, rfl⟩ F.slot_tuple_gt F.entry_tuple_gt
    (F.args_tuple_gt_2 _ _) (gtBody a b us vs n m da db sa sb eq ans)
    ⟨ga, gb, he, hr, fun z => (nomatch z), h⟩ hu
end Tlz
/-! < and > of data that are compared place by place, up to the first that differs -/
namespace Tlz
open PySem PySem.SeqAt PyProof.Rows
def ltL (f : PyData → PyData → Bool) : List PyData → List PyData → Bool
  | [], [] => false
  | [], _ :: _ => true
  | _ :: _, [] => false
  | x :: xs, y :: ys => if PyData.eqv x y = true then ltL f xs ys else f x y
def gtL (f : PyData → PyData → Bool) : List PyData → List PyData → Bool
  | [], [] => false
  | [], _ :: _ => false
  | _ :: _, [] => true
  | x :: xs, y :: ys => if PyData.eqv x y = true then gtL f xs ys else f x y
/-- comparable as far as it is asked -/
def okL (f : PyData → PyData → Bool) : List PyData → List PyData → Bool
  | x :: xs, y :: ys => if PyData.eqv x y = true then okL f xs ys else f x y
  | [], _ => true
  | _ :: _, [] => true
def ltD : Nat → PyData → PyData → Bool
  | _, .int i, .int j => decide (i < j)
  | _, .str x, .str y => decide (x.cps.toList < y.cps.toList)
  | n + 1, .tuple xs, .tuple ys => ltL (ltD n) xs ys
  | _, _, _ => false
def gtD : Nat → PyData → PyData → Bool
  | _, .int i, .int j => decide (j < i)
  | _, .str x, .str y => decide (y.cps.toList < x.cps.toList)
  | n + 1, .tuple xs, .tuple ys => gtL (gtD n) xs ys
  | _, _, _ => false
def okD : Nat → PyData → PyData → Bool
  | _, .int _, .int _ => true
  | _, .str _, .str _ => true
  | n + 1, .tuple xs, .tuple ys => okL (okD n) xs ys
  | _, _, _ => false
abbrev at_ (xs : List PyData) (j : Nat) : PyData := xs.getD j .none
theorem scan_shift (eq ans : Nat → Bool) (fin : Bool) : ∀ k i : Nat,
    scan eq ans fin (i + 1) k = scan (fun j => eq (j + 1)) (fun j => ans (j + 1)) fin i k
  | 0, _ => rfl
  | k + 1, i => by
    show cond (eq (i + 1)) (scan eq ans fin (i + 1 + 1) k) (ans (i + 1)) = cond (eq (i + 1)) (scan _ _ fin (i + 1) k) (ans (i + 1))
    rw [scan_shift eq ans fin k (i + 1)]
theorem scan_lt (f : PyData → PyData → Bool) : ∀ xs ys : List PyData,
    scan (fun j => PyData.eqv (at_ xs j) (at_ ys j)) (fun j => f (at_ xs j) (at_ ys j)) (decide (xs.length < ys.length)) 0 (min xs.length ys.length) = ltL f xs ys
  | [], [] => rfl
  | [], _ :: ys => by simp [scan, ltL]
  | _ :: xs, [] => by simp [scan, ltL]
  | x :: xs, y :: ys => by
    have e : min (x :: xs).length (y :: ys).length = min xs.length ys.length + 1 := by
      rw [List.length_cons, List.length_cons]; omega
    have d : decide ((x :: xs).length < (y :: ys).length) = decide (xs.length < ys.length) := by
      rw [List.length_cons, List.length_cons]
      exact decide_eq_decide.mpr (by omega)
    rw [e, d]
    show cond (PyData.eqv x y) (scan _ _ _ (0 + 1) (min xs.length ys.length)) (f x y) = _
    rw [scan_shift]
    have ih := scan_lt f xs ys
    unfold ltL
    cases h : PyData.eqv x y with
    | true => exact ih
    | false => rfl
theorem scan_gt (f : PyData → PyData → Bool) : ∀ xs ys : List PyData,
    scan (fun j => PyData.eqv (at_ xs j) (at_ ys j)) (fun j => f (at_ xs j) (at_ ys j)) (decide (xs.length > ys.length)) 0 (min xs.length ys.length) = gtL f xs ys
  | [], [] => rfl
  | [], _ :: ys => by simp [scan, gtL]
  | _ :: xs, [] => by simp [scan, gtL]
  | x :: xs, y :: ys => by
    have e : min (x :: xs).length (y :: ys).length = min xs.length ys.length + 1 := by
      rw [List.length_cons, List.length_cons]; omega
    have d : decide ((x :: xs).length > (y :: ys).length) = decide (xs.length > ys.length) := by
      rw [List.length_cons, List.length_cons]
      exact decide_eq_decide.mpr (by omega)
    rw [e, d]
    show cond (PyData.eqv x y) (scan _ _ _ (0 + 1) (min xs.length ys.length)) (f x y) = _
    rw [scan_shift]
    have ih := scan_gt f xs ys
    unfold gtL
    cases h : PyData.eqv x y with
    | true => exact ih
    | false => rfl
theorem okL_at (f : PyData → PyData → Bool) : ∀ (xs ys : List PyData), okL f xs ys = true → ∀ j, j < xs.length → j < ys.length →
    (∀ i, i < j → PyData.eqv (at_ xs i) (at_ ys i) = true) → PyData.eqv (at_ xs j) (at_ ys j) = false → f (at_ xs j) (at_ ys j) = true
  | [], _, _, j, h, _, _, _ => absurd h (Nat.not_lt_zero _)
  | _ :: _, [], _, j, _, h, _, _ => absurd h (Nat.not_lt_zero _)
  | x :: xs, y :: ys, h, j, h1, h2, pre, ne => by
    unfold okL at h
    cases j with
    | zero =>
      have n : PyData.eqv x y = false := ne
      rw [n] at h
      exact h
    | succ j =>
      have p : PyData.eqv x y = true := pre 0 (Nat.succ_pos _)
      rw [p] at h
      exact okL_at f xs ys h j (by simpa using h1) (by simpa using h2) (fun i hi => pre (i + 1) (by omega)) ne
theorem reads_at {h : Heap} : ∀ {vs : List Value} {ds : List PyData} {as : List Addr}, ReadsAll h vs ds as → ∀ j (p : j < vs.length), ∃ bs, Reads h vs[j] (at_ ds j) bs
  | _, _, _, .nil, j, p => absurd p (Nat.not_lt_zero _)
  | _, _, _, .cons r _, 0, _ => ⟨_, r⟩
  | _, _, _, .cons _ t, j + 1, p => reads_at t j (by simpa using p)
theorem lay_at : ∀ (ds : List PyData), PyData.canLayAll0 ds = true → ∀ j, j < ds.length → (at_ ds j).canLay0 = true
  | [], _, j, p => absurd p (Nat.not_lt_zero _)
  | d :: ds, h, j, p => by
    unfold PyData.canLayAll0 at h
    rw [Bool.and_eq_true] at h
    cases j with
    | zero => exact h.1
    | succ j => exact lay_at ds h.2 j (by simpa using p)
theorem deep_at : ∀ (ds : List PyData) (n : Nat), PyData.depthAll ds ≤ n → ∀ j, (at_ ds j).depth ≤ n
  | [], n, _, j => by
    show (PyData.none).depth ≤ n
    exact Nat.zero_le _
  | d :: ds, n, h, j => by
    unfold PyData.depthAll at h
    cases j with
    | zero => exact Nat.le_trans (Nat.le_max_left _ _) h
    | succ j => exact deep_at ds n (Nat.le_trans (Nat.le_max_right _ _) h) j
theorem rcLt : ∀ (n : Nat) (d e : PyData) (A : Around) (s : Shared) (v u : Value) (as bs : List Addr), Reads s.heap v d as → Reads s.heap u e bs →
    d.canLay0 = true → e.canLay0 = true → d.depth ≤ n → okD n d e = true → A.units + n < cLine → Rc .Lt A s v u (ltD n d e) := by
  intro n
  induction n with
  | zero =>
    intro d e A s v u as bs rv ru cd ce dd ok hu
    cases rv with
    | int i t =>
      cases ru with
      | int j t' => exact fun _ _ _ _ h => PyProof.Rows.lt_int h
      | _ => exact absurd ok (by simp [okD])
    | str x t =>
      cases ru with
      | str y t' => exact fun _ _ _ _ h => PyProof.Rows.lt_str h
      | _ => exact absurd ok (by simp [okD])
    | _ => exact absurd ok (by simp [okD])
  | succ n ih =>
    intro d e A s v u as bs rv ru cd ce dd ok hu
    cases rv with
    | int i t =>
      cases ru with
      | int j t' => exact fun _ _ _ _ h => PyProof.Rows.lt_int h
      | _ => exact absurd ok (by simp [okD])
    | str x t =>
      cases ru with
      | str y t' => exact fun _ _ _ _ h => PyProof.Rows.lt_str h
      | _ => exact absurd ok (by simp [okD])
    | @tuple a o vs k xs as h1 h2 h3 h4 =>
      cases ru with
      | @tuple b o' ws k' ys bs g1 g2 g3 g4 =>
        have lx : vs.size = xs.length := by simpa using ReadsAll.lenAny h4
        have ly : ws.size = ys.length := by simpa using ReadsAll.lenAny g4
        have dx : PyData.depthAll xs ≤ n := by
          have z : PyData.depthAll xs + 1 ≤ n + 1 := dd
          omega
        have ok' : okL (okD n) xs ys = true := ok
        have R := Rc.tupLt (A := A) (eq := fun j => PyData.eqv (at_ xs j) (at_ ys j)) (ans := fun j => ltD n (at_ xs j) (at_ ys j)) (a := a) (b := b) (us := vs) (vs := ws) (s := s)
          ⟨_, h1, h2, _, h3⟩ ⟨_, g1, g2, _, g3⟩ (by omega) (fun j p q => by
            obtain ⟨_, r1⟩ := reads_at h4 j (by simpa using p)
            obtain ⟨_, r2⟩ := reads_at g4 j (by simpa using q)
            have := eqAt_reads _ _ A.in1 s _ _ _ _ r1 r2 (lay_at xs cd j (by omega)) (lay_at ys ce j (by omega)) (by
              have z := deep_at xs n dx j
              have zz : min (at_ xs j).depth (at_ ys j).depth ≤ (at_ xs j).depth := Nat.min_le_left _ _
              show A.units + 1 + _ < cLine
              omega)
            simpa using this) (fun j p q pre ne => by
            obtain ⟨_, r1⟩ := reads_at h4 j (by simpa using p)
            obtain ⟨_, r2⟩ := reads_at g4 j (by simpa using q)
            have := ih _ _ A.in1 s _ _ _ _ r1 r2 (lay_at xs cd j (by omega)) (lay_at ys ce j (by omega)) (deep_at xs n dx j)
              (okL_at (okD n) xs ys ok' j (by omega) (by omega) pre ne) (by
                show A.units + 1 + n < cLine
                omega)
            simpa using this)
        rw [lx, ly, scan_lt] at R
        exact R
      | _ => exact absurd ok (by simp [okD])
    | _ => exact absurd ok (by simp [okD])
theorem rcGt : ∀ (n : Nat) (d e : PyData) (A : Around) (s : Shared) (v u : Value) (as bs : List Addr), Reads s.heap v d as → Reads s.heap u e bs →
    d.canLay0 = true → e.canLay0 = true → d.depth ≤ n → okD n d e = true → A.units + n < cLine → Rc .Gt A s v u (gtD n d e) := by
  intro n
  induction n with
  | zero =>
    intro d e A s v u as bs rv ru cd ce dd ok hu
    cases rv with
    | int i t =>
      cases ru with
      | int j t' => exact fun _ _ _ _ h => PyProof.Rows.gt_int h
      | _ => exact absurd ok (by simp [okD])
    | str x t =>
      cases ru with
      | str y t' => exact fun _ _ _ _ h => PySem.P.gt_str h
      | _ => exact absurd ok (by simp [okD])
    | _ => exact absurd ok (by simp [okD])
  | succ n ih =>
    intro d e A s v u as bs rv ru cd ce dd ok hu
    cases rv with
    | int i t =>
      cases ru with
      | int j t' => exact fun _ _ _ _ h => PyProof.Rows.gt_int h
      | _ => exact absurd ok (by simp [okD])
    | str x t =>
      cases ru with
      | str y t' => exact fun _ _ _ _ h => PySem.P.gt_str h
      | _ => exact absurd ok (by simp [okD])
    | @tuple a o vs k xs as h1 h2 h3 h4 =>
      cases ru with
      | @tuple b o' ws k' ys bs g1 g2 g3 g4 =>
        have lx : vs.size = xs.length := by simpa using ReadsAll.lenAny h4
        have ly : ws.size = ys.length := by simpa using ReadsAll.lenAny g4
        have dx : PyData.depthAll xs ≤ n := by
          have z : PyData.depthAll xs + 1 ≤ n + 1 := dd
          omega
        have ok' : okL (okD n) xs ys = true := ok
        have R := Rc.tupGt (A := A) (eq := fun j => PyData.eqv (at_ xs j) (at_ ys j)) (ans := fun j => gtD n (at_ xs j) (at_ ys j)) (a := a) (b := b) (us := vs) (vs := ws) (s := s)
          ⟨_, h1, h2, _, h3⟩ ⟨_, g1, g2, _, g3⟩ (by omega) (fun j p q => by
            obtain ⟨_, r1⟩ := reads_at h4 j (by simpa using p)
            obtain ⟨_, r2⟩ := reads_at g4 j (by simpa using q)
            have := eqAt_reads _ _ A.in1 s _ _ _ _ r1 r2 (lay_at xs cd j (by omega)) (lay_at ys ce j (by omega)) (by
              have z := deep_at xs n dx j
              have zz : min (at_ xs j).depth (at_ ys j).depth ≤ (at_ xs j).depth := Nat.min_le_left _ _
              show A.units + 1 + _ < cLine
              omega)
            simpa using this) (fun j p q pre ne => by
            obtain ⟨_, r1⟩ := reads_at h4 j (by simpa using p)
            obtain ⟨_, r2⟩ := reads_at g4 j (by simpa using q)
            have := ih _ _ A.in1 s _ _ _ _ r1 r2 (lay_at xs cd j (by omega)) (lay_at ys ce j (by omega)) (deep_at xs n dx j)
              (okL_at (okD n) xs ys ok' j (by omega) (by omega) pre ne) (by
                show A.units + 1 + n < cLine
                omega)
            simpa using this)
        rw [lx, ly, scan_gt] at R
        exact R
      | _ => exact absurd ok (by simp [okD])
    | _ => exact absurd ok (by simp [okD])
end Tlz
namespace K1
open PySem PySem.Spec PyProof.Rows L2 Ow
def topS (i : Nat) : Stmt := PySem.Challenge.pw_turnshelves_k01_order_of_values.main.body.getD i (.Pass ⟨0, 0, 0, 0⟩)
/-- the names that the top leaves alone -/
structure Bl (mg : Str → Option Value) : Prop where
  range : mg "range" = none
  len : mg "len" = none
  int : mg "int" = none
  str : mg "str" = none
  bool : mg "bool" = none
  list : mg "list" = none
  tuple : mg "tuple" = none
  isinstance : mg "isinstance" = none
  min : mg "min" = none
end K1
namespace K1
open PySem PySem.Spec PyProof.Rows L2 Ow
/-- the signs of a text are those of values -/
def Pr (z : Str) : Prop := ∀ c ∈ z.cps.toList, 32 ≤ c ∧ c < 127 ∧ c ≠ 37
instance (z : Str) : Decidable (Pr z) := inferInstanceAs (Decidable (∀ c ∈ z.cps.toList, 32 ≤ c ∧ c < 127 ∧ c ≠ 37))
theorem joinL_mem : ∀ (ps : List (List Nat)) (c : Nat), c ∈ TL.joinL [] ps → ∃ p ∈ ps, c ∈ p
  | [], _, h => nomatch h
  | [p], c, h => ⟨p, List.mem_singleton.mpr rfl, h⟩
  | p :: q :: r, c, h => by
    have h' : c ∈ p ++ ([] ++ TL.joinL [] (q :: r)) := h
    rw [List.nil_append] at h'
    rcases List.mem_append.mp h' with z | z
    · exact ⟨p, List.mem_cons_self, z⟩
    · obtain ⟨x, m, i⟩ := joinL_mem (q :: r) c z
      exact ⟨x, List.mem_cons_of_mem _ m, i⟩
theorem Pr.join {ys : List Str} (h : ∀ y ∈ ys, Pr y) : Pr (Txt.join (PySem.Str.ofString "") ys) := by
  intro c hc
  rw [TL.join_eq] at hc
  have h1 : c ∈ TL.joinL [] (ys.map fun z => z.cps.toList) := by
    have hc' : c ∈ TL.tl (Str.join (PySem.Str.ofString "") ys) := hc
    rw [TL.tl_join] at hc'
    exact hc'
  obtain ⟨p, m, i⟩ := joinL_mem _ _ h1
  obtain ⟨y, my, rfl⟩ := List.mem_map.mp m
  exact h y my c i
/-- a value of a row -/
def Scal (v : V) : Prop := (∃ i, v = .int i) ∨ ∃ z, v = .str z ∧ Pr z
def firstV : V → V → Bool
  | .int i, .int j => decide (i < j)
  | .int _, .str _ => true
  | .str _, .int _ => false
  | .str x, .str y => decide (x.cps.toList < y.cps.toList)
  | _, _ => false
def orderV : List V → List V → Int
  | [], [] => 0
  | [], _ :: _ => -1
  | _ :: _, [] => 1
  | x :: xs, y :: ys => if firstV x y = true then -1 else if firstV y x = true then 1 else orderV xs ys
def spMix : Sp := fun vs H Q _ => ∃ c k : Int, vs = [.int c, .int k] ∧
  ∀ v : Int, 0 ≤ v → v < 9973 → Q (.int v) H
def spDraws (K : PySem.W.Frag) : Sp := fun vs H Q _ => ∃ (a : Addr) (ns : List Int), vs = [.ref a] ∧
  SqL K H a (ns.map V.int) ∧ ns.length ≤ 63 ∧ ∀ (H' : Hp) (p : Addr) (ds : List Int), Same H H' → H p = none →
    H' p = some (.lst (ds.map V.int)) → Q (.ref p) H'
def spAt (K : PySem.W.Frag) : Sp := fun vs H Q _ => ∃ (d : Addr) (ds : List Int) (i : Int), vs = [.ref d, .int i] ∧
  SqL K H d (ds.map V.int) ∧ 0 ≤ i ∧ ∀ v : Int, Q (.int v) H
def spNext : Sp := fun vs H Q _ => ∃ (p d : Addr) (l : Int), vs = [.ref p, .int l] ∧ 0 < l ∧ Rng d H p ∧
  Drw p d H Q fun x _ => ∃ v : Int, x = .int v ∧ 0 ≤ v ∧ v < l
def spText : Sp := fun vs H Q _ => ∃ (p d : Addr) (m : Nat), vs = [.ref p, .int (m : Int)] ∧ m ≤ 1000 ∧ Rng d H p ∧
  Drw p d H Q fun x _ => ∃ z : Str, x = .str z ∧ Pr z
def spValue : Sp := fun vs H Q _ => ∃ p d : Addr, vs = [.ref p] ∧ Rng d H p ∧ Drw p d H Q fun x _ => Scal x
def spRow : Sp := fun vs H Q _ => ∃ (p d : Addr) (n : Nat), vs = [.ref p, .int (n : Int)] ∧ n ≤ 1000 ∧ Rng d H p ∧
  Drw p d H Q fun x H' => ∃ (q : Addr) (xs : List V), x = .ref q ∧ H' q = some (.tup xs) ∧ xs.length = n ∧ ∀ y ∈ xs, Scal y
def spName : Sp := fun vs H Q _ => ∃ p d : Addr, vs = [.ref p] ∧ Rng d H p ∧ Drw p d H Q fun x _ => ∃ z, x = .str z ∧ Pr z
def spFirst : Sp := fun vs H Q _ => ∃ a b : V, vs = [a, b] ∧ Scal a ∧ Scal b ∧ Q (.bl (firstV a b)) H
def spOrder (K : PySem.W.Frag) : Sp := fun vs H Q _ => ∃ (a b : Addr) (xs ys : List V), vs = [.ref a, .ref b] ∧
  SqT K H a xs ∧ SqT K H b ys ∧ xs.length ≤ 1000 ∧ (∀ x ∈ xs, Scal x) ∧ (∀ y ∈ ys, Scal y) ∧ Q (.int (orderV xs ys)) H
end K1
namespace Ow
open PySem PySem.Spec PyProof.Rows L2 Tlz
/-- two data at x, y, comparable to depth n -/
structure Cp (K : PySem.W.Frag) (H : Hp) (n : Nat) (x y : V) (d e : PyData) : Prop where
  l : Dp K H x d
  r : Dp K H y e
  cl : d.canLay0 = true
  cr : e.canLay0 = true
  dl : d.depth ≤ n
  dr : e.depth ≤ n
  ok : okD n d e = true
  n60 : n ≤ 60
def rLtK (K : PySem.W.Frag) : R2 := fun x y H Q => ∃ n d e, Cp K H n x y d e ∧ Q (.bl (ltD n d e)) H
def rGtK (K : PySem.W.Frag) : R2 := fun x y H Q => ∃ n d e, Cp K H n x y d e ∧ Q (.bl (gtD n d e)) H
theorem op_ltK {X : Cx} {k : Nat} (hr : Room k X.A) : OpR X (compareOp .Lt) (rLtK X.K) := by
  intro pins s σ H x y v u Q I rx ry h
  obtain ⟨n, d, e, c, q⟩ := h
  obtain ⟨as, r1⟩ := Dp.reads I d x v c.l rx
  obtain ⟨bs, r2⟩ := Dp.reads I e y u c.r ry
  have hu := hr.units
  have c6 := c.n60
  exact rcLt n d e X.A s v u as bs r1 r2 c.cl c.cr c.dl c.ok (by omega) X.prog X.w X.xe (EP X pins σ Q) ⟨.bl _, H, I, rfl, q⟩
theorem op_gtK {X : Cx} {k : Nat} (hr : Room k X.A) : OpR X (compareOp .Gt) (rGtK X.K) := by
  intro pins s σ H x y v u Q I rx ry h
  obtain ⟨n, d, e, c, q⟩ := h
  obtain ⟨as, r1⟩ := Dp.reads I d x v c.l rx
  obtain ⟨bs, r2⟩ := Dp.reads I e y u c.r ry
  have hu := hr.units
  have c6 := c.n60
  exact rcGt n d e X.A s v u as bs r1 r2 c.cl c.cr c.dl c.ok (by omega) X.prog X.w X.xe (EP X pins σ Q) ⟨.bl _, H, I, rfl, q⟩
theorem shaped_of {d : PyData} {n : Nat} (c : d.canLay0 = true) (h : d.depth ≤ n) (hn : n ≤ 60) : SeqAt.shaped d = true := by
  unfold SeqAt.shaped
  rw [c, decide_eq_true (show d.depth ≤ 64 by omega)]
  rfl
end Ow
namespace K1
open PySem PySem.Spec PyProof.Rows L2 Ow Tlz
/-- the key of a value, as data -/
def vkD : V → PyData
  | .int i => .tuple [.int 0, .int i]
  | .str z => .tuple [.int 1, .str z]
  | _ => .none
def rkD (xs : List V) : PyData := .tuple (xs.map vkD)
def kD (s : Int) (n : Str) (row : List V) : PyData := .tuple [.int s, .str n, rkD row]
def kd2 (s : Int) (n : Str) : PyData := .tuple [.int s, .str n]
/-- the order o tells what <, == and > say of d and e -/
structure Agr (n : Nat) (d e : PyData) (o : Int) : Prop where
  lt : ltD n d e = decide (o < 0)
  eq : PyData.eqv d e = decide (o = 0)
  gt : gtD n d e = decide (0 < o)
theorem str_tri (x y : Str) : (x == y) = (!decide (x.cps.toList < y.cps.toList) && !decide (y.cps.toList < x.cps.toList)) := by
  by_cases h : x = y
  · subst h
    have n : ¬ x.cps.toList < x.cps.toList := List.lt_irrefl _
    simp [n]
  · have e : (x == y) = false := by simpa using h
    rw [e]
    symm
    rw [Bool.and_eq_false_iff]
    apply Classical.byContradiction
    intro z
    apply h
    have z1 : ¬ x.cps.toList < y.cps.toList := fun w => z (.inl (by rw [decide_eq_true w]; rfl))
    have z2 : ¬ y.cps.toList < x.cps.toList := fun w => z (.inr (by rw [decide_eq_true w]; rfl))
    have e2 : x.cps.toList = y.cps.toList := List.le_antisymm z2 z1
    cases x
    cases y
    simp only [Str.mk.injEq]
    exact Array.toList_inj.mp e2
theorem eqv_int (i j : Int) : PyData.eqv (.int i) (.int j) = (i == j) := by rw [PyData.eqv]
theorem eqv_str (x y : Str) : PyData.eqv (.str x) (.str y) = (x == y) := by rw [PyData.eqv]
theorem eqv_tup (xs ys : List PyData) : PyData.eqv (.tuple xs) (.tuple ys) = PyData.eqvAll xs ys := by rw [PyData.eqv]
theorem eqv_cons (x y : PyData) (xs ys : List PyData) : PyData.eqvAll (x :: xs) (y :: ys) = (PyData.eqv x y && PyData.eqvAll xs ys) := by rw [PyData.eqvAll]
theorem eqv_nil : PyData.eqvAll [] [] = true := by rw [PyData.eqvAll]
theorem eqv_nc (y : PyData) (ys : List PyData) : PyData.eqvAll [] (y :: ys) = false := by rw [PyData.eqvAll]
theorem eqv_cn (x : PyData) (xs : List PyData) : PyData.eqvAll (x :: xs) [] = false := by rw [PyData.eqvAll]
theorem int_tri (i j : Int) : (i == j) = (!decide (i < j) && !decide (j < i)) := by
  by_cases h : i = j
  · subst h; simp
  · have e : (i == j) = false := by simpa using h
    rw [e]
    rcases Int.lt_or_gt_of_ne h with z | z
    · simp [z]
    · simp [z]
/-- the keys of two values -/
theorem vk_all {x y : V} (sx : Scal x) (sy : Scal y) (n : Nat) : okD (n + 1) (vkD x) (vkD y) = true ∧ ltD (n + 1) (vkD x) (vkD y) = firstV x y ∧ gtD (n + 1) (vkD x) (vkD y) = firstV y x ∧
    PyData.eqv (vkD x) (vkD y) = (!firstV x y && !firstV y x) := by
  rcases sx with ⟨i, rfl⟩ | ⟨x, rfl, _⟩ <;> rcases sy with ⟨j, rfl⟩ | ⟨y, rfl, _⟩
  · simp only [vkD, okD, ltD, gtD, okL, ltL, gtL, eqv_int, eqv_tup, eqv_cons, eqv_nil, firstV, beq_self_eq_true, if_true, Bool.true_and, Bool.and_true, ← int_tri]
    cases h : (i == j) with
    | true =>
      have e : i = j := by simpa using h
      subst e
      simp
    | false => simp
  · have e : ((0 : Int) == 1) = false := by decide
    simp only [vkD, okD, ltD, gtD, okL, ltL, gtL, eqv_int, eqv_tup, eqv_cons, eqv_nil, firstV, e, if_false, Bool.false_and, Bool.false_eq_true]
    decide
  · have e : ((1 : Int) == 0) = false := by decide
    simp only [vkD, okD, ltD, gtD, okL, ltL, gtL, eqv_int, eqv_tup, eqv_cons, eqv_nil, firstV, e, if_false, Bool.false_and, Bool.false_eq_true]
    decide
  · simp only [vkD, okD, ltD, gtD, okL, ltL, gtL, eqv_int, eqv_str, eqv_tup, eqv_cons, eqv_nil, firstV, beq_self_eq_true, if_true, Bool.true_and, Bool.and_true, ← str_tri]
    cases h : (x == y) with
    | true =>
      have e : x = y := by simpa using h
      subst e
      have n : ¬ x.cps.toList < x.cps.toList := List.lt_irrefl _
      simp [n]
    | false => simp
theorem first_asym {x y : V} (sx : Scal x) (sy : Scal y) (h : firstV x y = true) : firstV y x = false := by
  rcases sx with ⟨i, rfl⟩ | ⟨x, rfl, _⟩ <;> rcases sy with ⟨j, rfl⟩ | ⟨y, rfl, _⟩
  · have h' : i < j := of_decide_eq_true h
    exact decide_eq_false (by omega)
  · rfl
  · exact absurd (show false = true from h) Bool.false_ne_true
  · have h' : x.cps.toList < y.cps.toList := of_decide_eq_true h
    exact decide_eq_false (List.lt_asymm h')
/-- the keys of two rows -/
theorem rk_all (n : Nat) : ∀ (xs ys : List V), (∀ x ∈ xs, Scal x) → (∀ y ∈ ys, Scal y) →
    okL (okD (n + 1)) (xs.map vkD) (ys.map vkD) = true ∧ ltL (ltD (n + 1)) (xs.map vkD) (ys.map vkD) = decide (orderV xs ys < 0) ∧
    gtL (gtD (n + 1)) (xs.map vkD) (ys.map vkD) = decide (0 < orderV xs ys) ∧ PyData.eqvAll (xs.map vkD) (ys.map vkD) = decide (orderV xs ys = 0)
  | [], [], _, _ => ⟨rfl, rfl, rfl, by rw [List.map_nil, eqv_nil]; rfl⟩
  | [], y :: ys, _, _ => ⟨rfl, rfl, rfl, by rw [List.map_nil, List.map_cons, eqv_nc]; rfl⟩
  | x :: xs, [], _, _ => ⟨rfl, rfl, rfl, by rw [List.map_nil, List.map_cons, eqv_cn]; rfl⟩
  | x :: xs, y :: ys, hx, hy => by
    have sx := hx x List.mem_cons_self
    have sy := hy y List.mem_cons_self
    obtain ⟨a1, a2, a3, a4⟩ := vk_all sx sy n
    obtain ⟨b1, b2, b3, b4⟩ := rk_all n xs ys (fun z m => hx z (List.mem_cons_of_mem _ m)) (fun z m => hy z (List.mem_cons_of_mem _ m))
    rw [List.map_cons, List.map_cons]
    unfold okL ltL gtL orderV
    rw [eqv_cons, a4, a2, a3, a1, b1, b2, b3, b4]
    cases h : firstV x y with
    | true =>
      have h2 := first_asym sx sy h
      rw [h2]
      simp
    | false =>
      cases h2 : firstV y x with
      | true => simp
      | false => simp
theorem Agr.row {xs ys : List V} (hx : ∀ x ∈ xs, Scal x) (hy : ∀ y ∈ ys, Scal y) : Agr 2 (rkD xs) (rkD ys) (orderV xs ys) ∧ okD 2 (rkD xs) (rkD ys) = true := by
  obtain ⟨b1, b2, b3, b4⟩ := rk_all 0 xs ys hx hy
  exact ⟨⟨b2, (eqv_tup _ _).trans b4, b3⟩, b1⟩
theorem Agr.one {x y : V} (sx : Scal x) (sy : Scal y) : Agr 1 (vkD x) (vkD y) (orderV [x] [y]) ∧ okD 1 (vkD x) (vkD y) = true := by
  obtain ⟨a1, a2, a3, a4⟩ := vk_all sx sy 0
  have e : orderV [x] [y] = if firstV x y = true then -1 else if firstV y x = true then 1 else 0 := by
    unfold orderV
    rfl
  rw [e]
  refine ⟨⟨?_, ?_, ?_⟩, a1⟩
  · rw [a2]
    cases h : firstV x y with
    | true => rfl
    | false => cases h2 : firstV y x with
      | true => rfl
      | false => rfl
  · rw [a4]
    cases h : firstV x y with
    | true => rw [first_asym sx sy h]; rfl
    | false => cases h2 : firstV y x with
      | true => rfl
      | false => rfl
  · rw [a3]
    cases h : firstV x y with
    | true => rw [first_asym sx sy h]; rfl
    | false => cases h2 : firstV y x with
      | true => rfl
      | false => rfl
/-- the order of two keys, as the law reckons it -/
def keyOrd (s : Int) (n : Str) (row : List V) (s' : Int) (n' : Str) (row' : List V) : Int :=
  if (!PyData.eqv (kd2 s n) (kd2 s' n')) = true then (if ltD 1 (kd2 s n) (kd2 s' n') = true then -1 else 1) else orderV row row'
theorem Agr.key {s s' : Int} {n n' : Str} {xs ys : List V} (hx : ∀ x ∈ xs, Scal x) (hy : ∀ y ∈ ys, Scal y) :
    Agr 3 (kD s n xs) (kD s' n' ys) (keyOrd s n xs s' n' ys) ∧ okD 3 (kD s n xs) (kD s' n' ys) = true := by
  obtain ⟨⟨r1, r2, r3⟩, r4⟩ := Agr.row hx hy
  have e2 : PyData.eqv (kd2 s n) (kd2 s' n') = ((s == s') && (n == n')) := by
    unfold kd2
    rw [eqv_tup, eqv_cons, eqv_cons, eqv_nil, eqv_int, eqv_str, Bool.and_true]
  have l2 : ltD 1 (kd2 s n) (kd2 s' n') = if (s == s') = true then (if (n == n') = true then false else decide (n.cps.toList < n'.cps.toList)) else decide (s < s') := by
    simp only [kd2, ltD, ltL, eqv_int, eqv_str]
  have e3 : PyData.eqv (kD s n xs) (kD s' n' ys) = ((s == s') && ((n == n') && PyData.eqv (rkD xs) (rkD ys))) := by
    unfold kD
    rw [eqv_tup, eqv_cons, eqv_cons, eqv_cons, eqv_nil, eqv_int, eqv_str, Bool.and_true]
  have l3 : ltD 3 (kD s n xs) (kD s' n' ys) = if (s == s') = true then (if (n == n') = true then (if PyData.eqv (rkD xs) (rkD ys) = true then false else ltD 2 (rkD xs) (rkD ys)) else decide (n.cps.toList < n'.cps.toList)) else decide (s < s') := by
    simp only [kD, ltD, ltL, eqv_int, eqv_str]
  have g3 : gtD 3 (kD s n xs) (kD s' n' ys) = if (s == s') = true then (if (n == n') = true then (if PyData.eqv (rkD xs) (rkD ys) = true then false else gtD 2 (rkD xs) (rkD ys)) else decide (n'.cps.toList < n.cps.toList)) else decide (s' < s) := by
    simp only [kD, gtD, gtL, eqv_int, eqv_str]
  have o3 : okD 3 (kD s n xs) (kD s' n' ys) = if (s == s') = true then (if (n == n') = true then (if PyData.eqv (rkD xs) (rkD ys) = true then true else okD 2 (rkD xs) (rkD ys)) else true) else true := by
    simp only [kD, okD, okL, eqv_int, eqv_str]
  have it := int_tri s s'
  have st := str_tri n n'
  unfold keyOrd
  rw [e2, l2]
  refine ⟨⟨?_, ?_, ?_⟩, ?_⟩
  · rw [l3]
    cases h1 : (s == s') with
    | false => cases h : decide (s < s') <;> simp
    | true =>
      cases h2 : (n == n') with
      | false => cases h : decide (n.cps.toList < n'.cps.toList) <;> simp
      | true =>
        rw [r1, r2]
        by_cases z : orderV xs ys = 0
        · simp [z]
        · simp [z]
  · rw [e3]
    cases h1 : (s == s') with
    | false => cases h : decide (s < s') <;> simp
    | true =>
      cases h2 : (n == n') with
      | false => cases h : decide (n.cps.toList < n'.cps.toList) <;> simp
      | true => rw [r2]; simp
  · rw [g3]
    cases h1 : (s == s') with
    | false =>
      rw [h1] at it
      cases h : decide (s < s') with
      | false =>
        rw [h] at it
        simp at it
        simp [it]
      | true =>
        have z : s < s' := of_decide_eq_true h
        simp
        omega
    | true =>
      cases h2 : (n == n') with
      | false =>
        rw [h2] at st
        cases h : decide (n.cps.toList < n'.cps.toList) with
        | false =>
          rw [h] at st
          simp at st
          simp [st]
        | true =>
          have z : n.cps.toList < n'.cps.toList := of_decide_eq_true h
          have z2 := List.lt_asymm z
          simp [z2]
      | true =>
        rw [r3, r2]
        by_cases z : orderV xs ys = 0
        · simp [z]
        · simp [z]
  · rw [o3, r4]
    split
    · split
      · split <;> rfl
      · rfl
    · rfl
end K1
namespace K1
open PySem PySem.Spec PyProof.Rows L2 Ow Tlz
/-- every tuple stays -/
def Tk (K : PySem.W.Frag) (H H' : Hp) : Prop := ∀ (a : Addr) (xs : List V), SqT K H a xs → SqT K H' a xs
theorem Tk.same {K : PySem.W.Frag} {H H' : Hp} (s : Same H H') : Tk K H H' := fun a xs h => by
  rcases h with (h | ⟨o, h⟩) | h
  · exact .inl (.inl (s _ _ h))
  · exact .inl (.inr ⟨o, s _ _ h⟩)
  · exact .inr h
theorem Tk.trans {K : PySem.W.Frag} {H H1 H2 : Hp} (a : Tk K H H1) (b : Tk K H1 H2) : Tk K H H2 := fun c xs h => b c xs (a c xs h)
theorem Tk.gw {K : PySem.W.Frag} {H H' : Hp} {p : Addr} {us : List V} (e : H p = some (.lst us)) (g : Gw p H H') : Tk K H H' := fun a xs h => by
  rcases h with (h | ⟨o, h⟩) | h
  · exact .inl (.inl (g _ _ (fun z => by rw [z, e] at h; cases h) h))
  · exact .inl (.inr ⟨o, g _ _ (fun z => by rw [z, e] at h; cases h) h⟩)
  · exact .inr h
theorem Tk.put {K : PySem.W.Frag} {H : Hp} {p : Addr} {us : List V} {o : HO} (e : H p = some (.lst us)) : Tk K H (upd H p o) := Tk.gw e Gw.put
/-! data without lists -/
mutual
def noL : PyData → Bool
  | .list _ => false
  | .tuple xs => noLs xs
  | _ => true
def noLs : List PyData → Bool
  | [] => true
  | x :: xs => noL x && noLs xs
end
mutual
theorem Dp.tk {K : PySem.W.Frag} {H H' : Hp} (t : Tk K H H') : ∀ (d : PyData) (v : V), noL d = true → Dp K H v d → Dp K H' v d
  | .none, _, _, .non => .non
  | .bool b, _, _, .bl _ => .bl b
  | .int i, _, _, .int _ => .int i
  | .str x, _, _, .str _ => .str x
  | .list _, _, h, _ => absurd h (by rw [noL]; exact Bool.false_ne_true)
  | .tuple xs, _, h, .tup s a => .tup (t _ _ s) (DpAll.tk t xs _ (by rw [noL] at h; exact h) a)
theorem DpAll.tk {K : PySem.W.Frag} {H H' : Hp} (t : Tk K H H') : ∀ (ds : List PyData) (vs : List V), noLs ds = true → DpAll K H vs ds → DpAll K H' vs ds
  | [], _, _, .nil => .nil
  | d :: ds, _, h, .cons a b => by
    rw [noLs, Bool.and_eq_true] at h
    exact .cons (Dp.tk t d _ h.1 a) (DpAll.tk t ds _ h.2 b)
end
theorem DpAll.snoc {K : PySem.W.Frag} {H : Hp} : ∀ {vs : List V} {ds : List PyData} {v : V} {d : PyData}, DpAll K H vs ds → Dp K H v d → DpAll K H (vs ++ [v]) (ds ++ [d])
  | _, _, _, _, .nil, h => .cons h .nil
  | _, _, _, _, .cons a b, h => .cons a (DpAll.snoc b h)
theorem noL_vk (v : V) : noL (vkD v) = true := by
  cases v <;> simp [vkD, noL, noLs]
theorem noLs_vk : ∀ xs : List V, noLs (xs.map vkD) = true
  | [] => by simp [noLs]
  | x :: xs => by rw [List.map_cons, noLs, noL_vk, noLs_vk xs]; rfl
/-- strings of values can be laid -/
theorem Pr.ok {z : Str} (h : Pr z) : PyData.canLay0 (.str z) = true := by
  rw [PyData.canLay0]
  show z.cps.all (fun c => decide (c < 0x110000)) = true
  rw [Array.all_eq_true]
  intro i hi
  have := h z.cps[i] (by simp)
  exact decide_eq_true (by omega)
theorem lay_vk {v : V} (h : Scal v) : (vkD v).canLay0 = true := by
  rcases h with ⟨i, rfl⟩ | ⟨z, rfl, p⟩
  · simp [vkD, PyData.canLay0, PyData.canLayAll0]
  · have := p.ok
    simp [vkD, PyData.canLay0, PyData.canLayAll0] at this ⊢
    exact this
theorem lays_vk : ∀ {xs : List V}, (∀ x ∈ xs, Scal x) → PyData.canLayAll0 (xs.map vkD) = true
  | [], _ => by simp [PyData.canLayAll0]
  | x :: xs, h => by
    rw [List.map_cons, PyData.canLayAll0, lay_vk (h x List.mem_cons_self), lays_vk fun z m => h z (List.mem_cons_of_mem _ m)]
    rfl
theorem deep_vk (v : V) : (vkD v).depth ≤ 1 := by
  cases v <;> simp [vkD, PyData.depth, PyData.depthAll]
theorem deeps_vk : ∀ xs : List V, PyData.depthAll (xs.map vkD) ≤ 1
  | [] => by simp [PyData.depthAll]
  | x :: xs => by
    rw [List.map_cons, PyData.depthAll]
    exact Nat.max_le.mpr ⟨deep_vk x, deeps_vk xs⟩
theorem lay_rk {xs : List V} (h : ∀ x ∈ xs, Scal x) : (rkD xs).canLay0 = true := by
  unfold rkD
  rw [PyData.canLay0]
  exact lays_vk h
theorem deep_rk (xs : List V) : (rkD xs).depth ≤ 2 := by
  unfold rkD
  rw [PyData.depth]
  have := deeps_vk xs
  omega
theorem lay_k {s : Int} {n : Str} {xs : List V} (p : Pr n) (h : ∀ x ∈ xs, Scal x) : (kD s n xs).canLay0 = true := by
  have a := p.ok
  have b := lay_rk h
  unfold kD
  rw [PyData.canLay0, PyData.canLayAll0, PyData.canLayAll0, PyData.canLayAll0, PyData.canLayAll0, a, b]
  simp [PyData.canLay0]
theorem deep_k (s : Int) (n : Str) (xs : List V) : (kD s n xs).depth ≤ 3 := by
  have := deep_rk xs
  unfold kD
  rw [PyData.depth, PyData.depthAll, PyData.depthAll, PyData.depthAll, PyData.depthAll, PyData.depth, PyData.depth]
  omega
theorem noL_rk (xs : List V) : noL (rkD xs) = true := by
  unfold rkD
  rw [noL]
  exact noLs_vk xs
theorem noL_k (s : Int) (n : Str) (xs : List V) : noL (kD s n xs) = true := by
  unfold kD
  rw [noL, noLs, noLs, noLs, noLs, noL_rk]
  simp [noL]

/-- x is an item with the key s, n, row -/
def ItemAt (K : PySem.W.Frag) (H : Hp) (x : V) (s : Int) (n : Str) (row : List V) : Prop := ∃ (a : Addr) (xs : List V), x = .ref a ∧ SqT K H a xs ∧
  Pr n ∧ (∀ y ∈ row, Scal y) ∧ row.length ≤ 1000 ∧
  ((∃ rest, xs = .str "relation" :: .str n :: rest ∧ s = 0 ∧ row = []) ∨ (∃ rest, xs = .str "structure" :: .str n :: rest ∧ s = 2 ∧ row = []) ∨
   (∃ rest, xs = .str "layout" :: .str n :: rest ∧ s = 3 ∧ row = []) ∨ ∃ r : Addr, xs = [.str "fact", .str n, .ref r] ∧ s = 1 ∧ SqT K H r row)
def KeyAt (K : PySem.W.Frag) (H : Hp) (x : V) (s : Int) (n : Str) (row : List V) : Prop := ∃ a r : Addr, x = .ref a ∧
  SqT K H a [.int s, .str n, .ref r] ∧ SqT K H r row ∧ Pr n ∧ (∀ y ∈ row, Scal y) ∧ row.length ≤ 1000
theorem ItemAt.tk {K : PySem.W.Frag} {H H' : Hp} {x : V} {s : Int} {n : Str} {row : List V} (t : Tk K H H') (h : ItemAt K H x s n row) : ItemAt K H' x s n row := by
  obtain ⟨a, xs, e, h1, h2, h3, h4, h5⟩ := h
  refine ⟨a, xs, e, t _ _ h1, h2, h3, h4, ?_⟩
  rcases h5 with h | h | h | ⟨r, e1, e2, e3⟩
  · exact .inl h
  · exact .inr (.inl h)
  · exact .inr (.inr (.inl h))
  · exact .inr (.inr (.inr ⟨r, e1, e2, t _ _ e3⟩))
theorem KeyAt.tk {K : PySem.W.Frag} {H H' : Hp} {x : V} {s : Int} {n : Str} {row : List V} (t : Tk K H H') (h : KeyAt K H x s n row) : KeyAt K H' x s n row := by
  obtain ⟨a, r, e, h1, h2, h3⟩ := h
  exact ⟨a, r, e, t _ _ h1, t _ _ h2, h3⟩
/-- a def that makes something and keeps all else -/
def Mak (H : Hp) (Q : VK) (R : V → Hp → Prop) : Prop := ∀ x H', R x H' → Same H H' → Q x H'
def spLKey (K : PySem.W.Frag) : Sp := fun vs H Q _ => ∃ (x : V) (s : Int) (n : Str) (row : List V), vs = [x] ∧ ItemAt K H x s n row ∧
  Mak H Q fun y H' => KeyAt K H' y s n row
def spVKey (K : PySem.W.Frag) : Sp := fun vs H Q _ => ∃ x : V, vs = [x] ∧ Scal x ∧ Mak H Q fun y H' => Dp K H' y (vkD x)
def spRKey (K : PySem.W.Frag) : Sp := fun vs H Q _ => ∃ (a : Addr) (xs : List V), vs = [.ref a] ∧ SqT K H a xs ∧ (∀ x ∈ xs, Scal x) ∧ xs.length ≤ 1000 ∧
  Mak H Q fun y H' => Dp K H' y (rkD xs)
def spKOrd (K : PySem.W.Frag) : Sp := fun vs H Q _ => ∃ (x : V) (s : Int) (n : Str) (row : List V), vs = [x] ∧ KeyAt K H x s n row ∧
  Mak H Q fun y H' => Dp K H' y (kD s n row)
def spLOrd (K : PySem.W.Frag) : Sp := fun vs H Q _ => ∃ (x y : V) (s s' : Int) (n n' : Str) (row row' : List V), vs = [x, y] ∧ KeyAt K H x s n row ∧ KeyAt K H y s' n' row' ∧
  Mak H Q fun z _ => z = .int (keyOrd s n row s' n' row')
def spItem (K : PySem.W.Frag) : Sp := fun vs H Q _ => ∃ p d : Addr, vs = [.ref p] ∧ Rng d H p ∧
  Drw p d H Q fun x H' => ∃ (s : Int) (n : Str) (row : List V), ItemAt K H' x s n row
def spAgrees (K : PySem.W.Frag) : Sp := fun vs H Q _ => ∃ (x y : V) (n : Nat) (ds es : List PyData) (o : Int), vs = [x, y, .int o] ∧
  Cp K H n x y (.tuple ds) (.tuple es) ∧ Agr n (.tuple ds) (.tuple es) o ∧ Mak H Q fun z _ => z = .bl true
/-- two equal data without lists, n deep at most -/
def spSame (K : PySem.W.Frag) (n : Nat) : Sp := fun vs H Q _ => ∃ (x y : V) (d : PyData), vs = [x, y] ∧ Dp K H x d ∧ Dp K H y d ∧ d.canLay0 = true ∧ noL d = true ∧
  d.depth ≤ n ∧ n ≤ 50 ∧ Mak H Q fun z _ => z = .bl true
end K1
namespace Ow
open PySem PySem.Spec PyProof.Rows L2
/-- a built-in class by its name -/
theorem pe_ty {X : Cx} (n : String) {x : Str} {pos : Pos} (hg : Gl X x) (hm : X.mg x = none) (hv : bootBuiltins x = some (.type n))
    (hn : x ≠ "__name__" := by decide) (hd : (x == ("__debug__" : Str)) = false := by decide) : PE X (.Name x pos) (tC (.ty n)) :=
  pe_bltn hg hm hv rfl hn hd
theorem sz (n : Nat) (h : n ≤ 1000 := by decide) : n ≤ sizeLine := Nat.le_trans h (by decide)
/-- a statement and the rest, with a word between -/
theorem pss_mid {X : Cx} {st : Stmt} {rest : List Stmt} {t u : TS} (a : PS X st t) (b : PSs X rest u) :
    PSs X (st :: rest) fun D σ H => ∃ Mid : L2.St → Hp → Prop, t { D with nx := Mid } σ H ∧ ∀ σ' H', Mid σ' H' → u D σ' H' := by
  refine ⟨fun pins s σ H D I ⟨Mid, hm, hu⟩ => ?_⟩
  refine wpAny_execs_cons (thn (a.run pins s σ H { D with nx := Mid } I hm) fun f s1 q => ?_)
  cases f with
  | next =>
    obtain ⟨σ', H', I', q⟩ := q
    exact b.run pins s1 σ' H' D I' (hu σ' H' q)
  | ret v => exact q
  | brk => exact q
  | cont => exact q
end Ow
namespace K1
open PySem PySem.Spec PyProof.Rows L2 Ow
abbrev s_law_mix : Stmt := topS 7
abbrev N_law_mix : List Str := ["cell", "k", "value"]
theorem sc_law_mix : FnScope N_law_mix ["cell", "k"] (defScope s_law_mix) := ⟨rfl, rfl, rfl, by decide +kernel, rfl, by decide +kernel, by decide +kernel⟩
section
variable {P : Program} {w : World} {K : PySem.W.Frag} {mg : Str → Option Value} {base : Heap}
theorem ok_mix {f : Addr} {fd : FuncData} (F : Fun K "_law_mix" "_law_mix" s_law_mix f fd) (T : Bl mg) :
    FnOk P w K mg base CX0 1 f fd ["cell", "k"] spMix := by
  refine F.ok sc_law_mix (fun vs H Q E h => ?_) (fun cdv A outer s H vs Q E hr h => ?_)
  · obtain ⟨c, k, rfl, _⟩ := h
    rfl
  · obtain ⟨c, k, rfl, q⟩ := h
    refine ⟨_, (pss_cons (ps_set (i := 2) sc_law_mix.nd rfl (.inl rfl) (pe_op op_mod (pe_callTy call_int1 (by rfl) T.int (by decide +kernel) (pa_cons (pe_op op_add (pe_op op_add (pe_op op_mul (pe_callTy call_int1 (by rfl) T.int (by decide +kernel) (pa_cons (pv 0) pa_nil)) pe_int) (pe_op op_mul (pv 1) pe_int)) pe_int) pa_nil)) pe_int))
      (pss_cons (ps_set (i := 2) sc_law_mix.nd rfl (.inl rfl) (pe_op op_mod (pe_callTy call_int1 (by rfl) T.int (by decide +kernel) (pa_cons (pe_op op_add (pe_op op_add (pe_op op_mul (pv 2) (pv 2)) (pe_op op_mul (pv 1) pe_int)) pe_int) pa_nil)) pe_int))
      (pss_one (ps_ret (pe_op op_mod (pe_op op_fdiv (pv 2) pe_int) pe_int))))), ?_⟩
    refine ⟨_, rfl, .inl ⟨c, rfl, c, 48271, rfl, rfl, .inr ⟨by decide, by decide⟩, _, rfl, k, 69621, rfl, rfl,
      .inr ⟨by decide, by decide⟩, _, _, rfl, rfl, _, _, rfl, rfl, .inl ⟨_, rfl, _, 2147483647, rfl, rfl, (by show (0 : Int) < 2147483647; decide), ?_⟩⟩⟩
    refine ⟨_, rfl, _, rfl, _, _, rfl, rfl, .inl ⟨by omega, by omega⟩, _, rfl, k, 40692, rfl, rfl,
      .inr ⟨by decide, by decide⟩, _, _, rfl, rfl, _, _, rfl, rfl, .inl ⟨_, rfl, _, 2147483399, rfl, rfl, (by show (0 : Int) < 2147483399; decide), ?_⟩⟩
    refine ⟨_, rfl, _, 5, rfl, rfl, ⟨by decide, by decide⟩, _, 9973, rfl, rfl, (by show (0 : Int) < 9973; decide), ?_⟩
    exact q _ (Int.emod_nonneg _ (by decide)) (Int.emod_lt_of_pos _ (by decide))
end
end K1
namespace K1
open PySem PySem.Spec PyProof.Rows L2 Ow
abbrev s_law_at : Stmt := topS 9
abbrev N_law_at : List Str := ["draws", "index"]
theorem sc_law_at : FnScope N_law_at ["draws", "index"] (defScope s_law_at) := ⟨rfl, rfl, rfl, by decide +kernel, rfl, by decide +kernel, by decide +kernel⟩
section
variable {P : Program} {w : World} {K : PySem.W.Frag} {mg : Str → Option Value} {base : Heap}
theorem ok_at {f : Addr} {fd : FuncData} (F : Fun K "_law_at" "_law_at" s_law_at f fd) (T : Bl mg)
    (D_law_mix : Kn P w K mg base 1 "_law_mix" ["cell", "k"] spMix) :
    FnOk P w K mg base CX0 2 f fd ["draws", "index"] (spAt K) := by
  refine F.ok sc_law_at (fun vs H Q E h => ?_) (fun cdv A outer s H vs Q E hr h => ?_)
  · obtain ⟨d, ds, i, rfl, _⟩ := h
    rfl
  · obtain ⟨d, ds, i, rfl, hd, hi, q⟩ := h
    refine ⟨_, (pss_cons (ps_if (pt_cmpR op_lt (pv 1) (pe_callB call_len_seq (by rfl) T.len PySem.boot_len (pa_cons (pv 0) pa_nil)) (nomark _)) (pss_one (ps_ret (pe_ix ix_list (pv 0) (pv 1) (fun _ _ => rfl)))) pss_nil)
      (pss_cons (ps_if (pt_cmpR op_eq (pe_callB call_len_seq (by rfl) T.len PySem.boot_len (pa_cons (pv 0) pa_nil)) pe_int (nomark _)) (pss_one (ps_ret (pe_kn D_law_mix hr (pa_cons (pv 1) (pa_cons pe_int pa_nil))))) pss_nil)
      (pss_one (ps_ret (pe_kn D_law_mix hr (pa_cons (pe_op op_add (pe_ix ix_list (pv 0) (pe_op op_mod (pe_callTy call_int1 (by rfl) T.int (by decide +kernel) (pa_cons (pv 1) pa_nil)) (pe_callB call_len_seq (by rfl) T.len PySem.boot_len (pa_cons (pv 0) pa_nil))) (fun _ _ => rfl)) (pe_op op_mul (pv 1) pe_int)) (pa_cons (pv 1) pa_nil))))))), ?_⟩
    refine ⟨_, rfl, _, rfl, d, ds.map V.int, rfl, .inl hd, _, _, rfl, rfl, _, rfl, ite2 (fun e => ?_) (fun e => ?_)⟩
    · have e1 : i < ((ds.map V.int).length : Int) := of_decide_eq_true e
      rw [List.length_map] at e1
      have e2 : i.toNat < ds.length := by omega
      refine ⟨_, rfl, _, rfl, d, ds.map V.int, i, .int ds[i.toNat], rfl, rfl, hd, ?_, q _⟩
      exact at_of (j := i.toNat) (by omega) (by rw [List.getElem?_map, List.getElem?_eq_getElem e2]; rfl)
    · refine ⟨_, rfl, d, ds.map V.int, rfl, .inl hd, rfl, _, rfl, ite2 (fun e2 => ?_) (fun e2 => ?_)⟩
      · exact ⟨_, rfl, i, 77, rfl, fun v _ _ => q v⟩
      · have n0 : 0 < ds.length := by
          apply Nat.pos_of_ne_zero
          intro z
          apply e2
          apply decide_eq_true
          rw [List.length_map, z]
          rfl
        have m0 : 0 ≤ i % (ds.length : Int) := Int.emod_nonneg _ (by omega)
        have m1 : i % (ds.length : Int) < ds.length := Int.emod_lt_of_pos _ (by omega)
        have m2 : (i % (ds.length : Int)).toNat < ds.length := by omega
        refine ⟨_, rfl, _, rfl, .inl ⟨_, rfl, _, rfl, d, ds.map V.int, rfl, .inl hd, _, _, rfl, rfl, ?_, d, ds.map V.int, _,
          .int ds[(i % (ds.length : Int)).toNat], rfl, rfl, hd, ?_, _, rfl, i, 131, rfl, rfl, .inr ⟨by decide, by decide⟩, _, _, rfl, rfl, _, rfl, _, _, rfl, fun v _ _ => q v⟩⟩
        · show (0 : Int) < ((ds.map V.int).length : Int)
          rw [List.length_map]
          omega
        · rw [List.length_map]
          exact at_of (j := (i % (ds.length : Int)).toNat) (by omega) (by rw [List.getElem?_map, List.getElem?_eq_getElem m2]; rfl)
end
end K1
namespace K1
open PySem PySem.Spec PyProof.Rows L2 Ow
abbrev s_law_draws : Stmt := topS 8
abbrev N_law_draws : List Str := ["script", "draws", "k", "cell", "place"]
theorem sc_law_draws : FnScope N_law_draws ["script"] (defScope s_law_draws) := ⟨rfl, rfl, rfl, by decide +kernel, rfl, by decide +kernel, by decide +kernel⟩
section
variable {P : Program} {w : World} {K : PySem.W.Frag} {mg : Str → Option Value} {base : Heap}
theorem ok_draws {f : Addr} {fd : FuncData} (F : Fun K "_law_draws" "_law_draws" s_law_draws f fd) (T : Bl mg)
    (D_law_mix : Kn P w K mg base 1 "_law_mix" ["cell", "k"] spMix) :
    FnOk P w K mg base CX0 2 f fd ["script"] (spDraws K) := by
  refine F.ok sc_law_draws (fun vs H Q E h => ?_) (fun cdv A outer s H vs Q E hr h => ?_)
  · obtain ⟨a, ns, rfl, _⟩ := h
    rfl
  · obtain ⟨a, ns, rfl, hS, hlen, q⟩ := h
    refine ⟨_, (pss_cons (ps_set (i := 1) sc_law_draws.nd rfl (.inl rfl) (pe_lst pa_nil))
      (pss_cons (ps_for PassesOwn.never rfl (pi_range1 (by rfl) T.range (pa_cons (pe_callB (call_min2 rfl) (by rfl) T.min (by decide +kernel) (pa_cons pe_int (pa_cons (pe_callB call_len_seq (by rfl) T.len PySem.boot_len (pa_cons (pv 0) pa_nil)) pa_nil))) pa_nil)) (pg_name (i := 2) sc_law_draws.nd rfl (.inl rfl)) (pss_cons (ps_set (i := 3) sc_law_draws.nd rfl (.inl rfl) (pe_callTy call_int1 (by rfl) T.int (by decide +kernel) (pa_cons (pe_ix ix_list (pv 0) (pv 2) (fun _ _ => rfl)) pa_nil)))
      (pss_one (ps_if (pt_cmpR op_lt (pv 3) (pe_op op_pow pe_int pe_int) (nomark _)) (pss_one (ps_expr (pe_bm PySem.F.plainAttrs_list PySem.F.slot_list_append PySem.F.type_list_append mt_append (pv 1) (pa_cons (pe_kn D_law_mix hr (pa_cons (pv 3) (pa_cons (pv 2) pa_nil))) pa_nil)))) (pss_one (ps_for PassesOwn.never rfl (pi_range1 (by rfl) T.range (pa_cons pe_int pa_nil)) (pg_name (i := 4) sc_law_draws.nd rfl (.inl rfl)) (pss_one (ps_if (pt_cmpR op_gt (pv 3) pe_int (nomark _)) (pss_cons (ps_expr (pe_bm PySem.F.plainAttrs_list PySem.F.slot_list_append PySem.F.type_list_append mt_append (pv 1) (pa_cons (pe_op op_mod (pe_callTy call_int1 (by rfl) T.int (by decide +kernel) (pa_cons (pv 3) pa_nil)) pe_int) pa_nil)))
      (pss_one (ps_set (i := 3) sc_law_draws.nd rfl (.inl rfl) (pe_op op_fdiv (pv 3) pe_int)))) pss_nil))))))))
      (pss_one (ps_ret (pv 1))))), ?_⟩
    refine ⟨Nat.zero_le _, fun o no => ?_⟩
    have s1 : Same H (upd H o (.lst [])) := Same.new no
    have en : (if ((ns.map V.int).length : Int) < 63 then ((ns.map V.int).length : Int) else 63) = (ns.length : Int) := by
      rw [List.length_map]
      split <;> omega
    refine ⟨_, rfl, a, ns.map V.int, rfl, .inl (s1.seq hS), 63, ((ns.map V.int).length : Int), rfl, (ns.length : Int), by rw [en], by omega, by omega,
      for_range (lo := 0) (n := (ns.length : Int).toNat) (fun i σ H3 => ∃ (y2 y3 y4 : Option V) (ds : List Int), σ = [some (.ref a), some (.ref o), y2, y3, y4] ∧
        Same H H3 ∧ H3 o = some (.lst (ds.map V.int)) ∧ ds.length ≤ 60 * i) ⟨none, none, none, [], rfl, s1, upd_same, Nat.zero_le _⟩ (fun i σ H3 hi hP => ?_) (fun σ H3 hP => ?_)⟩
    · obtain ⟨y2, y3, y4, ds, rfl, sm, eo, hl⟩ := hP
      have hi' : i < ns.length := by omega
      have g : (ns.map V.int)[i]? = some (.int ns[i]) := by
        rw [List.getElem?_map, List.getElem?_eq_getElem hi']
        rfl
      refine ⟨_, rfl, _, rfl, a, ns.map V.int, _, .int ns[i], rfl, rfl, sm.seq hS, at_of (j := i) (by omega) g, .inl ⟨_, rfl, ?_⟩⟩
      refine ⟨_, rfl, 10, 18, rfl, rfl, ⟨by decide, by decide, by decide⟩, _, _, rfl, rfl, _, rfl, ite2 (fun e => ?_) (fun e => ?_)⟩
      · refine ⟨_, rfl, .inl ⟨rfl, _, .inl (.inl eo)⟩, _, rfl, _, rfl, _, _, rfl, fun v v0 v1 => ⟨o, ds.map V.int, .int v, rfl, rfl, eo, ?_, ?_⟩⟩
        · rw [List.length_map]
          exact small hl (by omega)
        · exact ⟨_, _, _, ds ++ [v], rfl, Same.over sm no, by rw [upd_same, List.map_append]; rfl, by rw [List.length_append]; show ds.length + 1 ≤ _; omega⟩
      · refine ⟨60, rfl, by decide, by decide, for_range (lo := 0) (n := (60 : Int).toNat) (fun j σ H4 => ∃ (c : Int) (y5 : Option V) (es : List Int), σ = [some (.ref a), some (.ref o), some (.int (0 + (i : Int))), some (.int c), y5] ∧
          Same H H4 ∧ H4 o = some (.lst (es.map V.int)) ∧ es.length ≤ 60 * i + j) ⟨ns[i], y4, ds, rfl, sm, eo, hl⟩ (fun j σ H4 hj hP => ?_) (fun σ H4 hP => ?_)⟩
        · obtain ⟨c, y5, es, rfl, sm4, eo4, hl4⟩ := hP
          have hj' : j < 60 := hj
          refine ⟨_, rfl, _, _, rfl, rfl, _, rfl, ite2 (fun e2 => ?_) (fun e2 => ?_)⟩
          · refine ⟨_, rfl, .inl ⟨rfl, _, .inl (.inl eo4)⟩, _, rfl, .inl ⟨c, rfl, c, 9973, rfl, rfl, (by show (0 : Int) < 9973; decide), o, es.map V.int, _, rfl, rfl, eo4, ?_, ?_⟩⟩
            · rw [List.length_map]
              exact small hl4 (by omega)
            · refine ⟨_, rfl, c, 9973, rfl, rfl, ⟨by decide, by decide⟩, ?_⟩
              exact ⟨c / 9973, _, es ++ [c % 9973], rfl, Same.over sm4 no, by rw [upd_same, List.map_append]; rfl, by rw [List.length_append]; show es.length + 1 ≤ _; omega⟩
          · exact ⟨c, _, es, rfl, sm4, eo4, by omega⟩
        · obtain ⟨c, y5, es, rfl, sm4, eo4, hl4⟩ := hP
          have hl5 : es.length ≤ 60 * i + 60 := hl4
          exact ⟨_, _, _, es, rfl, sm4, eo4, by omega⟩
    · obtain ⟨y2, y3, y4, ds, rfl, sm, eo, hl⟩ := hP
      exact ⟨_, rfl, q H3 o ds sm no eo⟩
end
end K1
namespace K1
open PySem PySem.Spec PyProof.Rows L2 Ow
abbrev s_law_next : Stmt := topS 12
abbrev N_law_next : List Str := ["state", "limit"]
theorem sc_law_next : FnScope N_law_next ["state", "limit"] (defScope s_law_next) := ⟨rfl, rfl, rfl, by decide +kernel, rfl, by decide +kernel, by decide +kernel⟩
section
variable {P : Program} {w : World} {K : PySem.W.Frag} {mg : Str → Option Value} {base : Heap}
theorem ok_next {f : Addr} {fd : FuncData} (F : Fun K "_law_next" "_law_next" s_law_next f fd) (T : Bl mg)
    (D_law_at : Kn P w K mg base 2 "_law_at" ["draws", "index"] (spAt K)) :
    FnOk P w K mg base CX0 3 f fd ["state", "limit"] spNext := by
  refine F.ok sc_law_next (fun vs H Q E h => ?_) (fun cdv A outer s H vs Q E hr h => ?_)
  · obtain ⟨p, d, l, rfl, _⟩ := h
    rfl
  · obtain ⟨p, d, l, rfl, hl, ⟨ds, k, hp, hk, hd⟩, q⟩ := h
    have nd := Rng.ne hp hd
    refine ⟨_, (pss_cons (ps_augS (pv 0) pe_int pget_list pe_int ip_add set_list)
      (pss_one (ps_ret (pe_op op_mod (pe_kn D_law_at hr (pa_cons (pe_ix ix_list (pv 0) pe_int (fun _ _ => rfl)) (pa_cons (pe_ix ix_list (pv 0) pe_int (fun _ _ => rfl)) pa_nil))) (pv 1))))), ?_⟩
    refine ⟨_, rfl, p, [.ref d, .int k], 1, .int k, rfl, rfl, SqL.of hp, rfl, k, 1, rfl, rfl, p, [.ref d, .int k], 1, 1, rfl, rfl, hp, rfl, ?_⟩
    have e1 : (upd H p (.lst [.ref d, .int (k + 1)])) d = some (.lst (ds.map V.int)) := by
      rw [upd_ne nd]
      exact hd
    refine ⟨_, rfl, p, [.ref d, .int (k + 1)], 0, .ref d, rfl, rfl, SqL.of upd_same, rfl, _, rfl, p, [.ref d, .int (k + 1)], 1, .int (k + 1), rfl, rfl, SqL.of upd_same, rfl,
      d, ds, k + 1, rfl, SqL.of e1, by omega, fun v => ⟨_, rfl, v, l, rfl, rfl, hl, ?_⟩⟩
    exact q _ _ ⟨_, rfl, Int.emod_nonneg _ (by omega), Int.emod_lt_of_pos _ hl⟩ Gw.put ⟨ds, k + 1, upd_same, by omega, e1⟩
end
end K1
namespace K1
open PySem PySem.Spec PyProof.Rows L2 Ow
abbrev s_law_name : Stmt := topS 16
abbrev N_law_name : List Str := ["state"]
theorem sc_law_name : FnScope N_law_name ["state"] (defScope s_law_name) := ⟨rfl, rfl, rfl, by decide +kernel, rfl, by decide +kernel, by decide +kernel⟩
section
variable {P : Program} {w : World} {K : PySem.W.Frag} {mg : Str → Option Value} {base : Heap}
theorem ok_name {f : Addr} {fd : FuncData} (F : Fun K "_law_name" "_law_name" s_law_name f fd)
    (D_law_next : Kn P w K mg base 3 "_law_next" ["state", "limit"] spNext) :
    FnOk P w K mg base CX0 4 f fd ["state"] spName := by
  refine F.ok sc_law_name (fun vs H Q E h => ?_) (fun cdv A outer s H vs Q E hr h => ?_)
  · obtain ⟨p, d, rfl, _⟩ := h
    rfl
  · obtain ⟨p, d, rfl, rg, q⟩ := h
    refine ⟨_, (pss_one (ps_ret (pe_ix ix_list (pe_lst (pa_cons pe_str (pa_cons pe_str (pa_cons pe_str (pa_cons pe_str (pa_cons pe_str (pa_cons pe_str pa_nil))))))) (pe_kn D_law_next hr (pa_cons (pv 0) (pa_cons pe_int pa_nil))) (fun _ _ => rfl)))), ?_⟩
    refine ⟨by decide, fun o no => ⟨_, rfl, p, d, 6, rfl, by decide, rg.same (Same.new no), ?_⟩⟩
    rintro x H' ⟨v, rfl, v0, v1⟩ gw rg'
    obtain ⟨y, hy, my⟩ := at_in (xs := [V.str "a", .str "b", .str "a2", .str "long_name_12", .str "s_", .str "r"]) v0 v1
    refine ⟨o, _, v, y, rfl, rfl, SqL.of (gw.keep upd_same (rg.free no).1), hy, q _ _ ?_ (fun b u nb e => gw b u nb (Gw.new no b u nb e)) rg'⟩
    simp only [List.mem_cons, List.not_mem_nil, or_false] at my
    rcases my with rfl | rfl | rfl | rfl | rfl | rfl <;> exact ⟨_, rfl, by decide +kernel⟩
end
end K1
namespace K1
open PySem PySem.Spec PyProof.Rows L2 Ow
abbrev s_law_text : Stmt := topS 13
abbrev N_law_text : List Str := ["state", "most", "chars", "start", "step", "k"]
theorem sc_law_text : FnScope N_law_text ["state", "most"] (defScope s_law_text) := ⟨rfl, rfl, rfl, by decide +kernel, rfl, by decide +kernel, by decide +kernel⟩
theorem join_len : ∀ (ys : List Str) (n : Nat), (∀ y ∈ ys, y.length ≤ 1) → ys.length ≤ n → (ys.map (·.length)).sum ≤ n
  | [], _, _, _ => Nat.zero_le _
  | y :: r, 0, _, h => by simp at h
  | y :: r, n + 1, h, hl => by
    have ih := join_len r n (fun z hz => h z (List.mem_cons_of_mem _ hz)) (by simpa using hl)
    have h1 := h y List.mem_cons_self
    rw [List.map_cons, List.sum_cons]
    omega
section
variable {P : Program} {w : World} {K : PySem.W.Frag} {mg : Str → Option Value} {base : Heap}
theorem ok_text {f : Addr} {fd : FuncData} (F : Fun K "_law_text" "_law_text" s_law_text f fd) (T : Bl mg)
    (D_law_next : Kn P w K mg base 3 "_law_next" ["state", "limit"] spNext) :
    FnOk P w K mg base CX0 4 f fd ["state", "most"] spText := by
  refine F.ok sc_law_text (fun vs H Q E h => ?_) (fun cdv A outer s H vs Q E hr h => ?_)
  · obtain ⟨p, d, m, rfl, _⟩ := h
    rfl
  · obtain ⟨p, d, m, rfl, hm, rg, q⟩ := h
    refine ⟨_, (pss_cons (ps_set (i := 2) sc_law_text.nd rfl (.inr rfl) pe_str)
      (pss_cons (ps_set (i := 3) sc_law_text.nd rfl (.inr rfl) (pe_kn D_law_next hr (pa_cons (pv 0) (pa_cons pe_int pa_nil))))
      (pss_cons (ps_set (i := 4) sc_law_text.nd rfl (.inr rfl) (pe_kn D_law_next hr (pa_cons (pv 0) (pa_cons pe_int pa_nil))))
      (pss_one (ps_ret (pe_join pe_str (pe_lc (own := [("k", 5)]) (g := gName 5) rfl sc_law_text.nd (pi_range1 (by rfl) T.range (pa_cons (pe_kn D_law_next hr (pa_cons (pv 0) (pa_cons (pe_op op_add (pv 1) pe_int) pa_nil))) pa_nil)) (blkOk_by (own := [("k", 5)]) (N := N_law_text) (sc := defScope s_law_text) (by decide +kernel)) (fun _ _ _ _ _ => pg_name (i := 5) sc_law_text.nd rfl (Or.inl rfl)) (fun _ _ _ _ _ => pts_nil) (fun _ _ _ _ _ => (pe_ix ix_str (pv 2) (pe_op op_mod (pe_op op_add (pv 3) (pe_op op_mul (pv 4) (pv 5))) pe_int) (fun _ _ => rfl)))))))))), ?_⟩
    refine ⟨_, rfl, p, d, 94, rfl, by decide, rg, ?_⟩
    rintro x1 H1 ⟨b, rfl, b0, b1⟩ gw1 rg1
    refine ⟨_, rfl, p, d, 94, rfl, by decide, rg1, ?_⟩
    rintro x2 H2 ⟨c, rfl, c0, c1⟩ gw2 rg2
    refine ⟨⟨_, rfl⟩, _, rfl, _, rfl, (m : Int), 1, rfl, rfl, p, d, (m : Int) + 1, rfl, by omega, rg2, ?_⟩
    rintro x3 H3 ⟨n, rfl, n0, n1⟩ gw3 rg3
    have gw : Gw p H H3 := (gw1.trans gw2).trans gw3
    refine ⟨n, rfl, by omega, by omega, fun D nD => lc_range (lo := 0) (n := n.toNat) (fun i H4 => ∃ ys : List Str, H4 D = some (.lst (ys.map V.str)) ∧
      ys.length = i ∧ (∀ y ∈ ys, y.length ≤ 1 ∧ Pr y) ∧ Gw p H H4 ∧ Rng d H4 p) ⟨[], upd_same, rfl, fun _ z => (nomatch z), Gw.over gw (gw.free nD (rg3.free nD).1), rg3.same (Same.new nD)⟩ (fun i H4 hi hP => ?_) (fun H4 hP => ?_)⟩
    · obtain ⟨ys, eD, ly, l1, gw4, rg4⟩ := hP
      refine ⟨rfl, ?_⟩
      refine ⟨_, rfl, _, rfl, _, rfl, _, rfl, c, _, rfl, rfl, .inl ⟨by omega, by omega⟩, _, _, rfl, rfl, _, 94, rfl, rfl, (by show (0 : Int) < 94; decide), ?_⟩
      obtain ⟨ch, hch, mch⟩ := at_in (xs := (PySem.Str.ofString " !\"#$&'()*+,-./0123456789:;<=>?@ABCDEFGHIJKLMNOPQRSTUVWXYZ[\\]^_`abcdefghijklmnopqrstuvwxyz{|}~").cps.toList)
        (v := (b + c * (0 + (i : Int))) % 94) (Int.emod_nonneg _ (by decide)) (by
          rw [show (PySem.Str.ofString " !\"#$&'()*+,-./0123456789:;<=>?@ABCDEFGHIJKLMNOPQRSTUVWXYZ[\\]^_`abcdefghijklmnopqrstuvwxyz{|}~").cps.toList.length = 94 by decide +kernel]
          exact Int.emod_lt_of_pos _ (by decide))
      refine ⟨_, _, ch, rfl, rfl, by decide +kernel, hch, ys.map V.str, eD, ?_, ?_⟩
      · rw [List.length_map]
        exact small (m := 1000) (by omega) (by decide)
      · refine ⟨ys ++ [⟨#[ch]⟩], by rw [upd_same, List.map_append]; rfl, by rw [List.length_append, ly]; rfl, fun y hy => ?_, ?_, ?_⟩
        · rcases List.mem_append.mp hy with h | h
          · exact l1 y h
          · rw [List.mem_singleton.mp h]
            refine ⟨Nat.le_refl _, fun z hz => ?_⟩
            have ez : z = ch := List.mem_singleton.mp hz
            rw [ez]
            exact (by decide +kernel : ∀ c ∈ (PySem.Str.ofString " !\"#$&'()*+,-./0123456789:;<=>?@ABCDEFGHIJKLMNOPQRSTUVWXYZ[\\]^_`abcdefghijklmnopqrstuvwxyz{|}~").cps.toList, 32 ≤ c ∧ c < 127 ∧ c ≠ 37) ch mch
        · exact Gw.over gw4 (gw.free nD (rg3.free nD).1)
        · exact rg4.upd (rg3.free nD)
    · obtain ⟨ys, eD, ly, l1, gw4, rg4⟩ := hP
      have hs : (ys.map (·.length)).sum ≤ m := join_len ys m (fun y hy => (l1 y hy).1) (by omega)
      refine ⟨_, D, ys, rfl, rfl, .inl (SqL.of eD), ?_, ?_⟩
      · show (ys.map (·.length)).sum + ys.length * 0 ≤ _
        omega
      · exact q _ _ ⟨_, rfl, Pr.join fun y hy => (l1 y hy).2⟩ gw4 rg4
end
end K1
namespace K1
open PySem PySem.Spec PyProof.Rows L2 Ow
abbrev s_law_value : Stmt := topS 14
abbrev N_law_value : List Str := ["state", "pick", "number", "k"]
theorem sc_law_value : FnScope N_law_value ["state"] (defScope s_law_value) := ⟨rfl, rfl, rfl, by decide +kernel, rfl, by decide +kernel, by decide +kernel⟩
section
variable {P : Program} {w : World} {K : PySem.W.Frag} {mg : Str → Option Value} {base : Heap}
theorem ok_value {f : Addr} {fd : FuncData} (F : Fun K "_law_value" "_law_value" s_law_value f fd) (T : Bl mg)
    (D_law_next : Kn P w K mg base 3 "_law_next" ["state", "limit"] spNext)
    (D_law_text : Kn P w K mg base 4 "_law_text" ["state", "most"] spText) :
    FnOk P w K mg base CX0 5 f fd ["state"] spValue := by
  refine F.ok sc_law_value (fun vs H Q E h => ?_) (fun cdv A outer s H vs Q E hr h => ?_)
  · obtain ⟨p, d, rfl, _⟩ := h
    rfl
  · obtain ⟨p, d, rfl, rg, q⟩ := h
    refine ⟨_, (pss_cons (ps_set (i := 1) sc_law_value.nd rfl (.inl rfl) (pe_kn D_law_next hr (pa_cons (pv 0) (pa_cons pe_int pa_nil))))
      (pss_cons (ps_if (pt_cmpR op_lt (pv 1) pe_int (nomark _)) (pss_one (ps_ret (pe_op op_sub (pe_kn D_law_next hr (pa_cons (pv 0) (pa_cons pe_int pa_nil))) pe_int))) pss_nil)
      (pss_cons (ps_if (pt_cmpR op_eq (pv 1) pe_int (nomark _)) (pss_cons (ps_set (i := 2) sc_law_value.nd rfl (.inl rfl) pe_int)
      (pss_cons (ps_for PassesOwn.never rfl (pi_range1 (by rfl) T.range (pa_cons (pe_op op_add pe_int (pe_kn D_law_next hr (pa_cons (pv 0) (pa_cons pe_int pa_nil)))) pa_nil)) (pg_name (i := 3) sc_law_value.nd rfl (.inl rfl)) (pss_one (ps_set (i := 2) sc_law_value.nd rfl (.inl rfl) (pe_op op_add (pe_op op_mul (pv 2) pe_int) (pe_kn D_law_next hr (pa_cons (pv 0) (pa_cons pe_int pa_nil)))))))
      (pss_one (ps_ret (pe_op op_mul (pv 2) (pe_ix ix_list (pe_lst (pa_cons pe_int (pa_cons (pe_un un_neg pe_int) pa_nil))) (pe_kn D_law_next hr (pa_cons (pv 0) (pa_cons pe_int pa_nil))) (fun _ _ => rfl))))))) pss_nil)
      (pss_cons (ps_if (pt_cmpR op_eq (pv 1) pe_int (nomark _)) (pss_one (ps_ret (pe_ix ix_list (pe_lst (pa_cons (pe_op op_sub (pe_op op_pow pe_int pe_int) pe_int) (pa_cons (pe_op op_sub pe_int (pe_op op_pow pe_int pe_int)) (pa_cons pe_int (pa_cons pe_int (pa_cons (pe_un un_neg pe_int) (pa_cons pe_int pa_nil))))))) (pe_kn D_law_next hr (pa_cons (pv 0) (pa_cons pe_int pa_nil))) (fun _ _ => rfl)))) pss_nil)
      (pss_cons (ps_if (pt_cmpR op_lt (pv 1) pe_int (nomark _)) (pss_one (ps_ret (pe_ix ix_list (pe_lst (pa_cons pe_str (pa_cons pe_str (pa_cons pe_str (pa_cons pe_str (pa_cons pe_str (pa_cons pe_str (pa_cons pe_str pa_nil)))))))) (pe_kn D_law_next hr (pa_cons (pv 0) (pa_cons pe_int pa_nil))) (fun _ _ => rfl)))) pss_nil)
      (pss_one (ps_ret (pe_kn D_law_text hr (pa_cons (pv 0) (pa_cons pe_int pa_nil)))))))))), ?_⟩
    refine ⟨_, rfl, p, d, 9, rfl, by decide, rg, ?_⟩
    rintro x1 H1 ⟨b, rfl, b0, b1⟩ gw1 rg1
    refine ⟨_, rfl, _, _, rfl, rfl, _, rfl, ite2 (fun e => ?_) (fun e => ?_)⟩
    · refine ⟨_, rfl, p, d, 5, rfl, by decide, rg1, ?_⟩
      rintro x2 H2 ⟨c, rfl, c0, c1⟩ gw2 rg2
      exact ⟨c, 2, rfl, rfl, q _ _ (.inl ⟨_, rfl⟩) (gw1.trans gw2) rg2⟩
    refine ⟨_, rfl, rfl, _, rfl, ite2 (fun e => ?_) (fun e => ?_)⟩
    · refine ⟨_, rfl, p, d, 7, rfl, by decide, rg1, ?_⟩
      rintro x2 H2 ⟨c, rfl, c0, c1⟩ gw2 rg2
      refine ⟨1, c, rfl, rfl, 1 + c, rfl, by omega, by omega, for_range (lo := 0) (n := (1 + c).toNat) (fun i σ H3 => ∃ (n : Int) (y3 : Option V),
        σ = [some (.ref p), some (.int b), some (.int n), y3] ∧ Gw p H H3 ∧ Rng d H3 p) ⟨0, none, rfl, gw1.trans gw2, rg2⟩ (fun i σ H3 hi hP => ?_) (fun σ H3 hP => ?_)⟩
      · obtain ⟨n, y3, rfl, gw3, rg3⟩ := hP
        refine ⟨_, rfl, n, 9973, rfl, rfl, .inr ⟨by decide, by decide⟩, _, rfl, p, d, 9973, rfl, by decide, rg3, ?_⟩
        rintro x4 H4 ⟨z, rfl, z0, z1⟩ gw4 rg4
        exact ⟨_, _, rfl, rfl, _, _, rfl, gw3.trans gw4, rg4⟩
      · obtain ⟨n, y3, rfl, gw3, rg3⟩ := hP
        refine ⟨_, rfl, 1, rfl, by decide, fun o no => ⟨_, rfl, p, d, 2, rfl, by decide, rg3.same (Same.new no), ?_⟩⟩
        rintro x5 H5 ⟨v, rfl, v0, v1⟩ gw5 rg5
        obtain ⟨y, hy, my⟩ := at_in (xs := [V.int 1, V.int (-1)]) v0 v1
        refine ⟨o, _, v, y, rfl, rfl, SqL.of (gw5.keep upd_same (rg3.free no).1), hy, ?_⟩
        have gw6 : Gw p H H5 := (gw3.trans (Gw.new no)).trans gw5
        simp only [List.mem_cons, List.not_mem_nil, or_false] at my
        rcases my with rfl | rfl
        · exact ⟨n, 1, rfl, rfl, .inr ⟨by decide, by decide⟩, q _ _ (.inl ⟨_, rfl⟩) gw6 rg5⟩
        · exact ⟨n, -1, rfl, rfl, .inr ⟨by decide, by decide⟩, q _ _ (.inl ⟨_, rfl⟩) gw6 rg5⟩
    refine ⟨_, rfl, rfl, _, rfl, ite2 (fun e => ?_) (fun e => ?_)⟩
    · refine ⟨10, 30, rfl, rfl, ⟨by decide, by decide, by decide⟩, _, 1, rfl, rfl, 10, 30, rfl, rfl, ⟨by decide, by decide, by decide⟩, 1, _, rfl, rfl, 128, rfl, by decide, fun o no => ⟨_, rfl, p, d, 6, rfl, by decide, rg1.same (Same.new no), ?_⟩⟩
      rintro x5 H5 ⟨v, rfl, v0, v1⟩ gw5 rg5
      obtain ⟨y, hy, my⟩ := at_in (xs := [V.int ((10 : Int) ^ (30 : Int).toNat - 1), V.int (1 - (10 : Int) ^ (30 : Int).toNat), V.int 127, V.int 128, V.int (-128), V.int 16384]) v0 v1
      refine ⟨o, _, v, y, rfl, rfl, SqL.of (gw5.keep upd_same (rg1.free no).1), hy, q _ _ ?_ ((gw1.trans (Gw.new no)).trans gw5) rg5⟩
      simp only [List.mem_cons, List.not_mem_nil, or_false] at my
      rcases my with rfl | rfl | rfl | rfl | rfl | rfl <;> exact .inl ⟨_, rfl⟩
    refine ⟨_, rfl, _, _, rfl, rfl, _, rfl, ite2 (fun e => ?_) (fun e => ?_)⟩
    · refine ⟨by decide, fun o no => ⟨_, rfl, p, d, 7, rfl, by decide, rg1.same (Same.new no), ?_⟩⟩
      rintro x5 H5 ⟨v, rfl, v0, v1⟩ gw5 rg5
      obtain ⟨y, hy, my⟩ := at_in (xs := [V.str "", V.str "a", V.str "b", V.str "ab", V.str "a ", V.str "0", V.str "1"]) v0 v1
      refine ⟨o, _, v, y, rfl, rfl, SqL.of (gw5.keep upd_same (rg1.free no).1), hy, q _ _ ?_ ((gw1.trans (Gw.new no)).trans gw5) rg5⟩
      simp only [List.mem_cons, List.not_mem_nil, or_false] at my
      rcases my with rfl | rfl | rfl | rfl | rfl | rfl | rfl <;> exact .inr ⟨_, rfl, by decide +kernel⟩
    · refine ⟨_, rfl, p, d, 30, rfl, by decide, rg1, ?_⟩
      rintro x2 H2 ⟨z, rfl, pz⟩ gw2 rg2
      exact q _ _ (.inr ⟨_, rfl, pz⟩) (gw1.trans gw2) rg2
end
end K1
namespace K1
open PySem PySem.Spec PyProof.Rows L2 Ow
abbrev s_law_row : Stmt := topS 15
abbrev N_law_row : List Str := ["state", "width", "k"]
theorem sc_law_row : FnScope N_law_row ["state", "width"] (defScope s_law_row) := ⟨rfl, rfl, rfl, by decide +kernel, rfl, by decide +kernel, by decide +kernel⟩
section
variable {P : Program} {w : World} {K : PySem.W.Frag} {mg : Str → Option Value} {base : Heap}
theorem ok_row {f : Addr} {fd : FuncData} (F : Fun K "_law_row" "_law_row" s_law_row f fd) (T : Bl mg)
    (D_law_value : Kn P w K mg base 5 "_law_value" ["state"] spValue) :
    FnOk P w K mg base CX0 6 f fd ["state", "width"] spRow := by
  refine F.ok sc_law_row (fun vs H Q E h => ?_) (fun cdv A outer s H vs Q E hr h => ?_)
  · obtain ⟨p, d, n, rfl, _⟩ := h
    rfl
  · obtain ⟨p, d, n, rfl, hn, rg, q⟩ := h
    refine ⟨_, (pss_one (ps_ret (pe_callTy call_tuple_of (by rfl) T.tuple (by decide +kernel) (pa_cons (pe_lc (own := [("k", 2)]) (g := gName 2) rfl sc_law_row.nd (pi_range1 (by rfl) T.range (pa_cons (pv 1) pa_nil)) (blkOk_by (own := [("k", 2)]) (N := N_law_row) (sc := defScope s_law_row) (by decide +kernel)) (fun _ _ _ _ _ => pg_name (i := 2) sc_law_row.nd rfl (Or.inl rfl)) (fun _ _ _ _ _ => pts_nil) (fun _ _ _ _ _ => (pe_kn D_law_value hr (pa_cons (pv 0) pa_nil)))) pa_nil)))), ?_⟩
    refine ⟨_, rfl, (n : Int), rfl, by omega, by omega, fun D nD => lc_range (lo := 0) (n := (n : Int).toNat) (fun i H4 => ∃ ys : List V, H4 D = some (.lst ys) ∧
      ys.length = i ∧ (∀ y ∈ ys, Scal y) ∧ Gw p H H4 ∧ Rng d H4 p) ⟨[], upd_same, rfl, fun _ z => (nomatch z), Gw.new nD, rg.same (Same.new nD)⟩ (fun i H4 hi hP => ?_) (fun H4 hP => ?_)⟩
    · obtain ⟨ys, eD, ly, l1, gw4, rg4⟩ := hP
      refine ⟨rfl, ?_⟩
      refine ⟨_, rfl, p, d, rfl, rg4, ?_⟩
      rintro x H5 sx gw5 rg5
      refine ⟨ys, gw5.keep eD (rg.free nD).1, small (m := 1000) (by omega) (by decide), ys ++ [x], upd_same, by rw [List.length_append, ly]; rfl, fun y hy => ?_, Gw.over (gw4.trans gw5) nD, rg5.upd (rg.free nD)⟩
      rcases List.mem_append.mp hy with h | h
      · exact l1 y h
      · rw [List.mem_singleton.mp h]
        exact sx
    · obtain ⟨ys, eD, ly, l1, gw4, rg4⟩ := hP
      exact ⟨D, ys, rfl, .inl ⟨SqL.of eD, fun l nl => q _ _ ⟨l, ys, rfl, upd_same, by omega, l1⟩ (Gw.over gw4 (gw4.free nl (rg4.free nl).1)) (rg4.upd (rg4.free nl))⟩⟩
end
end K1
namespace K1
open PySem PySem.Spec PyProof.Rows L2 Ow
abbrev s_law_first : Stmt := topS 17
abbrev N_law_first : List Str := ["one", "other"]
theorem sc_law_first : FnScope N_law_first ["one", "other"] (defScope s_law_first) := ⟨rfl, rfl, rfl, by decide +kernel, rfl, by decide +kernel, by decide +kernel⟩
section
variable {P : Program} {w : World} {K : PySem.W.Frag} {mg : Str → Option Value} {base : Heap}
theorem ok_first {f : Addr} {fd : FuncData} (F : Fun K "_law_first" "_law_first" s_law_first f fd) (T : Bl mg) :
    FnOk P w K mg base CX0 1 f fd ["one", "other"] spFirst := by
  refine F.ok sc_law_first (fun vs H Q E h => ?_) (fun cdv A outer s H vs Q E hr h => ?_)
  · obtain ⟨a, b, rfl, _⟩ := h
    rfl
  · obtain ⟨a, b, rfl, sa, sb, q⟩ := h
    refine ⟨_, (pss_cons (ps_if (pt_cmpR op_ne (pe_callB call_isi (by rfl) T.isinstance (by decide +kernel) (pa_cons (pv 0) (pa_cons (pe_ty "int" (by rfl) T.int (by decide +kernel)) pa_nil))) (pe_callB call_isi (by rfl) T.isinstance (by decide +kernel) (pa_cons (pv 1) (pa_cons (pe_ty "int" (by rfl) T.int (by decide +kernel)) pa_nil))) (nomark _)) (pss_one (ps_ret (pe_callB call_isi (by rfl) T.isinstance (by decide +kernel) (pa_cons (pv 0) (pa_cons (pe_ty "int" (by rfl) T.int (by decide +kernel)) pa_nil))))) pss_nil)
      (pss_one (ps_ret (pe_cmpR (op_lt.or op_lt_str) (pv 0) (pv 1) (nomark _))))), ?_⟩
    rcases sa with ⟨i, rfl⟩ | ⟨x, rfl, _⟩
    · rcases sb with ⟨j, rfl⟩ | ⟨y, rfl, _⟩
      · refine ⟨_, rfl, _, _, .type "int", .type "int", true, rfl, .ty _, .base (.int i), kit_ty (by decide +kernel), ?_⟩
        refine ⟨_, rfl, _, _, .type "int", .type "int", true, rfl, .ty _, .base (.int j), kit_ty (by decide +kernel), ?_⟩
        refine ⟨rfl, _, rfl, ite2 (fun e => absurd e (by decide)) (fun _ => ?_)⟩
        exact ⟨_, rfl, _, rfl, .inl ⟨i, j, rfl, rfl, q⟩⟩
      · refine ⟨_, rfl, _, _, .type "int", .type "int", true, rfl, .ty _, .base (.int i), kit_ty (by decide +kernel), ?_⟩
        refine ⟨_, rfl, _, _, .type "str", .type "int", false, rfl, .ty _, .base (.str y), kit_ty (by decide +kernel), ?_⟩
        refine ⟨rfl, _, rfl, ite2 (fun _ => ?_) (fun e => absurd (by decide) e)⟩
        refine ⟨_, rfl, _, _, .type "int", .type "int", true, rfl, .ty _, .base (.int i), kit_ty (by decide +kernel), ?_⟩
        exact q
    · rcases sb with ⟨j, rfl⟩ | ⟨y, rfl, _⟩
      · refine ⟨_, rfl, _, _, .type "str", .type "int", false, rfl, .ty _, .base (.str x), kit_ty (by decide +kernel), ?_⟩
        refine ⟨_, rfl, _, _, .type "int", .type "int", true, rfl, .ty _, .base (.int j), kit_ty (by decide +kernel), ?_⟩
        refine ⟨rfl, _, rfl, ite2 (fun _ => ?_) (fun e => absurd (by decide) e)⟩
        refine ⟨_, rfl, _, _, .type "str", .type "int", false, rfl, .ty _, .base (.str x), kit_ty (by decide +kernel), ?_⟩
        exact q
      · refine ⟨_, rfl, _, _, .type "str", .type "int", false, rfl, .ty _, .base (.str x), kit_ty (by decide +kernel), ?_⟩
        refine ⟨_, rfl, _, _, .type "str", .type "int", false, rfl, .ty _, .base (.str y), kit_ty (by decide +kernel), ?_⟩
        refine ⟨rfl, _, rfl, ite2 (fun e => absurd e (by decide)) (fun _ => ?_)⟩
        exact ⟨_, rfl, _, rfl, .inr ⟨x, y, rfl, rfl, q⟩⟩
end
end K1
namespace K1
open PySem PySem.Spec PyProof.Rows L2 Ow
abbrev s_law_order : Stmt := topS 18
abbrev N_law_order : List Str := ["first", "second", "k"]
theorem sc_law_order : FnScope N_law_order ["first", "second"] (defScope s_law_order) := ⟨rfl, rfl, rfl, by decide +kernel, rfl, by decide +kernel, by decide +kernel⟩
theorem order_end : ∀ xs ys : List V, (xs = [] ∨ ys = []) →
    orderV xs ys = (if decide (ys.length < xs.length) = true then 1 else 0) - (if decide (xs.length < ys.length) = true then 1 else 0)
  | [], [], _ => rfl
  | [], y :: ys, _ => by simp [orderV]
  | x :: xs, [], _ => by simp [orderV]
  | x :: xs, y :: ys, h => by simp at h
section
variable {P : Program} {w : World} {K : PySem.W.Frag} {mg : Str → Option Value} {base : Heap}
theorem ok_order {f : Addr} {fd : FuncData} (F : Fun K "_law_order" "_law_order" s_law_order f fd) (T : Bl mg)
    (D_law_first : Kn P w K mg base 1 "_law_first" ["one", "other"] spFirst) :
    FnOk P w K mg base CX0 2 f fd ["first", "second"] (spOrder K) := by
  refine F.ok sc_law_order (fun vs H Q E h => ?_) (fun cdv A outer s H vs Q E hr h => ?_)
  · obtain ⟨a, b, xs, ys, rfl, _⟩ := h
    rfl
  · obtain ⟨a, b, xs, ys, rfl, hx, hy, bx, sx, sy, q⟩ := h
    refine ⟨_, (pss_cons (ps_for PassesOwn.never rfl (pi_range1 (by rfl) T.range (pa_cons (pe_callB (call_min2 rfl) (by rfl) T.min (by decide +kernel) (pa_cons (pe_callB call_len_seq (by rfl) T.len PySem.boot_len (pa_cons (pv 0) pa_nil)) (pa_cons (pe_callB call_len_seq (by rfl) T.len PySem.boot_len (pa_cons (pv 1) pa_nil)) pa_nil))) pa_nil)) (pg_name (i := 2) sc_law_order.nd rfl (.inl rfl)) (pss_cons (ps_if (pt_val (pe_kn D_law_first hr (pa_cons (pe_ix ix_tup (pv 0) (pv 2) (fun _ _ => rfl)) (pa_cons (pe_ix ix_tup (pv 1) (pv 2) (fun _ _ => rfl)) pa_nil)))) (pss_one (ps_ret (pe_un un_neg pe_int))) pss_nil)
      (pss_one (ps_if (pt_val (pe_kn D_law_first hr (pa_cons (pe_ix ix_tup (pv 1) (pv 2) (fun _ _ => rfl)) (pa_cons (pe_ix ix_tup (pv 0) (pv 2) (fun _ _ => rfl)) pa_nil)))) (pss_one (ps_ret pe_int)) pss_nil))))
      (pss_one (ps_ret (pe_op op_sub (pe_callTy call_int1 (by rfl) T.int (by decide +kernel) (pa_cons (pe_cmpR op_gt (pe_callB call_len_seq (by rfl) T.len PySem.boot_len (pa_cons (pv 0) pa_nil)) (pe_callB call_len_seq (by rfl) T.len PySem.boot_len (pa_cons (pv 1) pa_nil)) (nomark _)) pa_nil)) (pe_callTy call_int1 (by rfl) T.int (by decide +kernel) (pa_cons (pe_cmpR op_lt (pe_callB call_len_seq (by rfl) T.len PySem.boot_len (pa_cons (pv 0) pa_nil)) (pe_callB call_len_seq (by rfl) T.len PySem.boot_len (pa_cons (pv 1) pa_nil)) (nomark _)) pa_nil)))))), ?_⟩
    have em : (if (ys.length : Int) < (xs.length : Int) then (ys.length : Int) else (xs.length : Int)) = ((min xs.length ys.length : Nat) : Int) := by
      split <;> omega
    have hmin : min xs.length ys.length ≤ xs.length := Nat.min_le_left _ _
    refine ⟨_, rfl, a, xs, rfl, .inr hx, _, rfl, b, ys, rfl, .inr hy, (xs.length : Int), (ys.length : Int), rfl, ((min xs.length ys.length : Nat) : Int), by rw [em], by omega, by omega,
      for_range (lo := 0) (n := ((min xs.length ys.length : Nat) : Int).toNat) (fun i σ H3 => ∃ y2 : Option V, σ = [some (.ref a), some (.ref b), y2] ∧ H3 = H ∧
        orderV xs ys = orderV (xs.drop i) (ys.drop i)) ⟨none, rfl, rfl, rfl⟩ (fun i σ H3 hi hP => ?_) (fun σ H3 hP => ?_)⟩
    · obtain ⟨y2, rfl, rfl, eo⟩ := hP
      have h1 : i < xs.length := by omega
      have h2 : i < ys.length := by omega
      rw [List.drop_eq_getElem_cons h1, List.drop_eq_getElem_cons h2] at eo
      have ex := at_of (xs := xs) (z := 0 + (i : Int)) (j := i) (by omega) (List.getElem?_eq_getElem h1)
      have ey := at_of (xs := ys) (z := 0 + (i : Int)) (j := i) (by omega) (List.getElem?_eq_getElem h2)
      have s1 := sx _ (List.getElem_mem h1)
      have s2 := sy _ (List.getElem_mem h2)
      refine ⟨_, rfl, _, rfl, a, xs, _, xs[i], rfl, rfl, hx, ex, _, rfl, _, rfl, b, ys, _, ys[i], rfl, rfl, hy, ey, xs[i], ys[i], rfl, s1, s2, _, rfl, ite2 (fun e => ?_) (fun e => ?_)⟩
      · refine ⟨1, rfl, ?_⟩
        have z : orderV xs ys = -1 := by
          rw [eo]
          unfold orderV
          rw [if_pos e]
        rw [z] at q
        exact q
      · refine ⟨_, rfl, _, rfl, b, ys, _, ys[i], rfl, rfl, hy, ey, _, rfl, _, rfl, a, xs, _, xs[i], rfl, rfl, hx, ex, ys[i], xs[i], rfl, s2, s1, _, rfl, ite2 (fun e2 => ?_) (fun e2 => ?_)⟩
        · have z : orderV xs ys = 1 := by
            rw [eo]
            unfold orderV
            rw [if_neg e, if_pos e2]
          rw [z] at q
          exact q
        · refine ⟨_, rfl, rfl, ?_⟩
          rw [eo]
          conv => lhs; unfold orderV
          rw [if_neg e, if_neg e2]
    · obtain ⟨y2, rfl, rfl, eo⟩ := hP
      have eo' : orderV xs ys = orderV (xs.drop (min xs.length ys.length)) (ys.drop (min xs.length ys.length)) := eo
      refine ⟨_, rfl, a, xs, rfl, .inr hx, _, rfl, b, ys, rfl, .inr hy, _, _, rfl, rfl, .inr ⟨_, rfl, _, rfl, a, xs, rfl, .inr hx, _, rfl, b, ys, rfl, .inr hy, _, _, rfl, rfl, .inr ⟨_, rfl, _, _, rfl, rfl, ?_⟩⟩⟩
      have eE := order_end (xs.drop (min xs.length ys.length)) (ys.drop (min xs.length ys.length)) (by
        by_cases h : xs.length ≤ ys.length
        · left; exact List.drop_of_length_le (by omega)
        · right; exact List.drop_of_length_le (by omega))
      have e1 : decide ((ys.drop (min xs.length ys.length)).length < (xs.drop (min xs.length ys.length)).length) = decide ((ys.length : Int) < (xs.length : Int)) := by
        rw [List.length_drop, List.length_drop]
        apply decide_eq_decide.mpr
        omega
      have e2 : decide ((xs.drop (min xs.length ys.length)).length < (ys.drop (min xs.length ys.length)).length) = decide ((xs.length : Int) < (ys.length : Int)) := by
        rw [List.length_drop, List.length_drop]
        apply decide_eq_decide.mpr
        omega
      rw [e1, e2] at eE
      rw [eo'.trans eE] at q
      exact q
end
end K1
namespace K1
open PySem PySem.Spec PyProof.Rows L2 Ow Tlz
abbrev svalue_key : Stmt := topS 2
abbrev Nvalue_key : List Str := ["value"]
theorem scvalue_key : FnScope Nvalue_key ["value"] (defScope svalue_key) := ⟨rfl, rfl, rfl, by decide +kernel, rfl, by decide +kernel, by decide +kernel⟩
abbrev srow_key : Stmt := topS 3
abbrev Nrow_key : List Str := ["row", "value"]
theorem scrow_key : FnScope Nrow_key ["row"] (defScope srow_key) := ⟨rfl, rfl, rfl, by decide +kernel, rfl, by decide +kernel, by decide +kernel⟩
abbrev skey_order : Stmt := topS 5
abbrev Nkey_order : List Str := ["key", "sort", "name", "row"]
theorem sckey_order : FnScope Nkey_order ["key"] (defScope skey_order) := ⟨rfl, rfl, rfl, by decide +kernel, rfl, by decide +kernel, by decide +kernel⟩
section
variable {P : Program} {w : World} {K : PySem.W.Frag} {mg : Str → Option Value} {base : Heap}
theorem ok_vkey {f : Addr} {fd : FuncData} (F : Fun K "value_key" "value_key" svalue_key f fd) (T : Bl mg) :
    FnOk P w K mg base CX0 1 f fd ["value"] (spVKey K) := by
  refine F.ok scvalue_key (fun vs H Q E h => ?_) (fun cdv A outer s H vs Q E hr h => ?_)
  · obtain ⟨x, rfl, _⟩ := h
    rfl
  · obtain ⟨x, rfl, sx, q⟩ := h
    refine ⟨_, (pss_cons (ps_if (pt_val (pe_callB call_isi (by rfl) T.isinstance (by decide +kernel) (pa_cons (pv 0) (pa_cons (pe_ty "str" (by rfl) T.str (by decide +kernel)) pa_nil)))) (pss_one (ps_ret (pe_tup (pa_cons pe_int (pa_cons (pv 0) pa_nil))))) pss_nil)
      (pss_one (ps_ret (pe_tup (pa_cons pe_int (pa_cons (pv 0) pa_nil)))))), ?_⟩
    rcases sx with ⟨i, rfl⟩ | ⟨z, rfl, _⟩
    · refine ⟨_, rfl, _, _, .type "int", .type "str", false, rfl, .ty _, .base (.int i), kit_ty (by decide +kernel), ?_⟩
      refine ⟨_, rfl, iteF ?_⟩
      refine ⟨_, rfl, sz 2, fun t nt => q _ _ ?_ (Same.new nt)⟩
      exact .tup (SqT.of upd_same) (.cons (.int 0) (.cons (.int i) .nil))
    · refine ⟨_, rfl, _, _, .type "str", .type "str", true, rfl, .ty _, .base (.str z), kit_ty (by decide +kernel), ?_⟩
      refine ⟨_, rfl, iteT ?_⟩
      refine ⟨_, rfl, sz 2, fun t nt => q _ _ ?_ (Same.new nt)⟩
      exact .tup (SqT.of upd_same) (.cons (.int 1) (.cons (.str z) .nil))
theorem ok_rkey {f : Addr} {fd : FuncData} (F : Fun K "row_key" "row_key" srow_key f fd) (T : Bl mg)
    (Dvalue_key : Kn P w K mg base 1 "value_key" ["value"] (spVKey K)) :
    FnOk P w K mg base CX0 2 f fd ["row"] (spRKey K) := by
  refine F.ok scrow_key (fun vs H Q E h => ?_) (fun cdv A outer s H vs Q E hr h => ?_)
  · obtain ⟨a, xs, rfl, _⟩ := h
    rfl
  · obtain ⟨a, xs, rfl, hx, sx, lx, q⟩ := h
    refine ⟨_, (pss_one (ps_ret (pe_callTy call_tuple_of (by rfl) T.tuple (by decide +kernel) (pa_cons (pe_lc (own := [("value", 1)]) (g := gName 1) rfl scrow_key.nd (pi_tup (pv 0)) (blkOk_by (own := [("value", 1)]) (N := Nrow_key) (sc := defScope srow_key) (by decide +kernel)) (fun _ _ _ _ _ => pg_name (i := 1) scrow_key.nd rfl (Or.inl rfl)) (fun _ _ _ _ _ => pts_nil) (fun _ _ _ _ _ => (pe_kn Dvalue_key hr (pa_cons (pv 1) pa_nil)))) pa_nil)))), ?_⟩
    refine ⟨_, rfl, a, rfl, ⟨_, hx⟩, fun D nD => lc_tup (K := K) (a := a) (xs := xs) (fun i H4 => ∃ ks : List V, H4 D = some (.lst ks) ∧ ks.length = i ∧ Same H H4 ∧
      DpAll K H4 ks ((xs.take i).map vkD)) ⟨[], upd_same, rfl, Same.new nD, .nil⟩ (fun i H4 hi hP => ?_) (fun i x H4 hi hP => ?_) (fun H4 hP => ?_)⟩
    · obtain ⟨ks, _, _, sm, _⟩ := hP
      exact Tk.same sm _ _ hx
    · obtain ⟨ks, eD, lk, sm, da⟩ := hP
      refine ⟨rfl, ?_⟩
      refine ⟨_, rfl, x, rfl, sx x (List.mem_of_getElem? hi), ?_⟩
      intro y H5 dy s5
      have hl : i < xs.length := (List.getElem?_eq_some_iff.mp hi).1
      have t5 : Tk K H4 H5 := Tk.same s5
      have eD5 := s5 _ _ eD
      refine ⟨ks, eD5, small (m := 1000) (by omega) (by decide), ks ++ [y], upd_same, by rw [List.length_append, lk]; rfl, Same.over (sm.trans s5) nD, ?_⟩
      have t6 : Tk K H5 (upd H5 D (.lst (ks ++ [y]))) := Tk.put eD5
      rw [List.take_add_one, hi]
      rw [List.map_append]
      exact DpAll.snoc (DpAll.tk (t5.trans t6) _ _ (noLs_vk _) da) (Dp.tk t6 _ _ (noL_vk x) dy)
    · obtain ⟨ks, eD, lk, sm, da⟩ := hP
      rw [List.take_length] at da
      refine ⟨D, ks, rfl, .inl ⟨SqL.of eD, fun l nl => q _ _ ?_ (sm.trans (Same.new nl))⟩⟩
      exact .tup (SqT.of upd_same) (DpAll.tk (Tk.same (Same.new nl)) _ _ (noLs_vk _) da)
theorem ok_kord {f : Addr} {fd : FuncData} (F : Fun K "key_order" "key_order" skey_order f fd)
    (Drow_key : Kn P w K mg base 2 "row_key" ["row"] (spRKey K)) :
    FnOk P w K mg base CX0 3 f fd ["key"] (spKOrd K) := by
  refine F.ok sckey_order (fun vs H Q E h => ?_) (fun cdv A outer s H vs Q E hr h => ?_)
  · obtain ⟨x, s, n, row, rfl, _⟩ := h
    rfl
  · obtain ⟨x, s, n, row, rfl, ⟨a, r, rfl, ha, hrw, pn, sr, lr⟩, q⟩ := h
    refine ⟨_, (pss_cons (ps_asg (pv 0) (pg_tup rfl (pgs_cons (pg_name (i := 1) sckey_order.nd rfl (.inl rfl)) (pgs_cons (pg_name (i := 2) sckey_order.nd rfl (.inl rfl)) (pgs_cons (pg_name (i := 3) sckey_order.nd rfl (.inl rfl)) pgs_nil)))))
      (pss_one (ps_ret (pe_tup (pa_cons (pv 1) (pa_cons (pv 2) (pa_cons (pe_kn Drow_key hr (pa_cons (pv 3) pa_nil)) pa_nil))))))), ?_⟩
    refine ⟨_, rfl, a, _, rfl, ha, rfl, _, _, rfl, _, _, rfl, _, _, rfl, rfl, ?_⟩
    refine ⟨_, rfl, _, rfl, _, rfl, r, row, rfl, hrw, sr, lr, ?_⟩
    intro y H5 dy s5
    refine ⟨sz 3, fun t nt => q _ _ ?_ (s5.trans (Same.new nt))⟩
    exact .tup (SqT.of upd_same) (.cons (.int s) (.cons (.str n) (.cons (Dp.tk (Tk.same (Same.new nt)) _ _ (noL_rk row) dy) .nil)))
end
end K1
namespace K1
open PySem PySem.Spec PyProof.Rows L2 Ow Tlz
abbrev skey_of : Stmt := topS 4
abbrev Nkey_of : List Str := ["item", "word"]
theorem sckey_of : FnScope Nkey_of ["item"] (defScope skey_of) := ⟨rfl, rfl, rfl, by decide +kernel, rfl, by decide +kernel, by decide +kernel⟩
abbrev s_law_key : Stmt := topS 19
abbrev N_law_key : List Str := ["item"]
theorem sc_law_key : FnScope N_law_key ["item"] (defScope s_law_key) := ⟨rfl, rfl, rfl, by decide +kernel, rfl, by decide +kernel, by decide +kernel⟩
abbrev sortTab : List (Key × V) := mergeK [] [(Sum.inr "relation", .int 0), (Sum.inr "structure", .int 2), (Sum.inr "layout", .int 3)]
theorem tab0 : valV sortTab (Sum.inr "relation") = some (.int 0) := by decide +kernel
theorem tab2 : valV sortTab (Sum.inr "structure") = some (.int 2) := by decide +kernel
theorem tab3 : valV sortTab (Sum.inr "layout") = some (.int 3) := by decide +kernel
abbrev sortWs : List Str := ["relation", "fact", "structure", "layout"]
/-- the words of SORTS, where the module keeps them -/
structure Srt (K : PySem.W.Frag) (mg : Str → Option Value) : Prop where
  ex : ∃ (a : Addr) (o : Obj) (its : Array Value) (n : Nat), mg "SORTS" = some (.ref a) ∧ K.lookup a = some o ∧ o.cls = .type "tuple" ∧
    o.dict = none ∧ o.data = .seq its n ∧ its.size ≤ sizeLine ∧ Vals (sortWs.map V.str) its.toList
section
variable {P : Program} {w : World} {K : PySem.W.Frag} {mg : Str → Option Value} {base : Heap}
/-- the key as a new tuple -/
theorem key_new {H H1 : Hp} {Q : VK} {s : Int} {n : Str} {row : List V} {r : Addr} (q : Mak H Q fun y H' => KeyAt K H' y s n row) (sm : Same H H1) (hr : SqT K H1 r row) (pn : Pr n)
    (sr : ∀ y ∈ row, Scal y) (lr : row.length ≤ 1000) : ∀ p, H1 p = none → Q (.ref p) (upd H1 p (.tup [.int s, .str n, .ref r])) := fun p np =>
  q _ _ ⟨p, r, rfl, SqT.of upd_same, Tk.same (Same.new np) _ _ hr, pn, sr, lr⟩ (sm.trans (Same.new np))
theorem ok_lkey {f : Addr} {fd : FuncData} (F : Fun K "_law_key" "_law_key" s_law_key f fd) :
    FnOk P w K mg base CX0 1 f fd ["item"] (spLKey K) := by
  refine F.ok sc_law_key (fun vs H Q E h => ?_) (fun cdv A outer s0 H vs Q E hr h => ?_)
  · obtain ⟨x, s, n, row, rfl, _⟩ := h
    rfl
  · obtain ⟨x, s, n, row, rfl, ⟨a, xs, rfl, hx, pn, sr, lr, hc⟩, q⟩ := h
    refine ⟨_, (pss_cons (ps_if (pt_cmpR op_eq (pe_ix ix_tup (pv 0) pe_int (fun _ _ => rfl)) pe_str (nomark _)) (pss_one (ps_ret (pe_tup (pa_cons pe_int (pa_cons (pe_ix ix_tup (pv 0) pe_int (fun _ _ => rfl)) (pa_cons (pe_ix ix_tup (pv 0) pe_int (fun _ _ => rfl)) pa_nil)))))) pss_nil)
      (pss_one (ps_ret (pe_tup (pa_cons (pe_dget (hu_of hr) (pe_disp (pps_cons pe_str pe_int (pps_cons pe_str pe_int (pps_cons pe_str pe_int pps_nil))) (by rfl) (by rfl) (fun z => by cases z) (by decide)) (pe_ix ix_tup (pv 0) pe_int (fun _ _ => rfl)) (fun _ _ => rfl)) (pa_cons (pe_ix ix_tup (pv 0) pe_int (fun _ _ => rfl)) (pa_cons (pe_tup pa_nil) pa_nil))))))), ?_⟩
    rcases hc with ⟨rest, rfl, rfl, rfl⟩ | ⟨rest, rfl, rfl, rfl⟩ | ⟨rest, rfl, rfl, rfl⟩ | ⟨r, rfl, rfl, hrw⟩
    · refine ⟨_, rfl, a, _, 0, .str "relation", rfl, rfl, hx, at_of (j := 0) rfl rfl, rfl, _, rfl, ite2 (fun e => absurd e (by decide +kernel)) (fun _ => ?_)⟩
      refine fun t nt => ⟨upd_same, [(Sum.inr "relation", .int 0), (Sum.inr "structure", .int 2), (Sum.inr "layout", .int 3)], rfl, by decide, ?_⟩
      have s1 : Same H (upd (upd H t (.dK [])) t (.dK sortTab)) := Same.over (Same.new nt) nt
      refine ⟨_, rfl, a, _, 0, .str "relation", rfl, rfl, Tk.same s1 _ _ hx, at_of (j := 0) rfl rfl, t, .int 0, rfl, tab0 ▸ DGet.k (k := Sum.inr "relation") upd_same, ?_⟩
      refine ⟨_, rfl, a, _, 1, .str n, rfl, rfl, Tk.same s1 _ _ hx, at_of (j := 1) rfl rfl, sz 0, fun u nu => ⟨sz 3, ?_⟩⟩
      exact key_new q (s1.trans (Same.new nu)) (SqT.of upd_same) pn sr lr
    · refine ⟨_, rfl, a, _, 0, .str "structure", rfl, rfl, hx, at_of (j := 0) rfl rfl, rfl, _, rfl, ite2 (fun e => absurd e (by decide +kernel)) (fun _ => ?_)⟩
      refine fun t nt => ⟨upd_same, [(Sum.inr "relation", .int 0), (Sum.inr "structure", .int 2), (Sum.inr "layout", .int 3)], rfl, by decide, ?_⟩
      have s1 : Same H (upd (upd H t (.dK [])) t (.dK sortTab)) := Same.over (Same.new nt) nt
      refine ⟨_, rfl, a, _, 0, .str "structure", rfl, rfl, Tk.same s1 _ _ hx, at_of (j := 0) rfl rfl, t, .int 2, rfl, tab2 ▸ DGet.k (k := Sum.inr "structure") upd_same, ?_⟩
      refine ⟨_, rfl, a, _, 1, .str n, rfl, rfl, Tk.same s1 _ _ hx, at_of (j := 1) rfl rfl, sz 0, fun u nu => ⟨sz 3, ?_⟩⟩
      exact key_new q (s1.trans (Same.new nu)) (SqT.of upd_same) pn sr lr
    · refine ⟨_, rfl, a, _, 0, .str "layout", rfl, rfl, hx, at_of (j := 0) rfl rfl, rfl, _, rfl, ite2 (fun e => absurd e (by decide +kernel)) (fun _ => ?_)⟩
      refine fun t nt => ⟨upd_same, [(Sum.inr "relation", .int 0), (Sum.inr "structure", .int 2), (Sum.inr "layout", .int 3)], rfl, by decide, ?_⟩
      have s1 : Same H (upd (upd H t (.dK [])) t (.dK sortTab)) := Same.over (Same.new nt) nt
      refine ⟨_, rfl, a, _, 0, .str "layout", rfl, rfl, Tk.same s1 _ _ hx, at_of (j := 0) rfl rfl, t, .int 3, rfl, tab3 ▸ DGet.k (k := Sum.inr "layout") upd_same, ?_⟩
      refine ⟨_, rfl, a, _, 1, .str n, rfl, rfl, Tk.same s1 _ _ hx, at_of (j := 1) rfl rfl, sz 0, fun u nu => ⟨sz 3, ?_⟩⟩
      exact key_new q (s1.trans (Same.new nu)) (SqT.of upd_same) pn sr lr
    · refine ⟨_, rfl, a, _, 0, .str "fact", rfl, rfl, hx, at_of (j := 0) rfl rfl, rfl, _, rfl, ite2 (fun _ => ?_) (fun e => absurd (by decide +kernel) e)⟩
      refine ⟨_, rfl, a, _, 1, .str n, rfl, rfl, hx, at_of (j := 1) rfl rfl, _, rfl, a, _, 2, .ref r, rfl, rfl, hx, at_of (j := 2) rfl rfl, sz 3, ?_⟩
      exact key_new q (Same.refl H) hrw pn sr lr
theorem ok_keyof {f : Addr} {fd : FuncData} (F : Fun K "key_of" "key_of" skey_of f fd) (S : Srt K mg) :
    FnOk P w K mg base CX0 1 f fd ["item"] (spLKey K) := by
  obtain ⟨sA, o, its, k0, gS, hk, hcl, hdi, hda, hz, hv⟩ := S.ex
  have hS : ∀ H : Hp, SqT K H sA (sortWs.map V.str) := fun H => .inr ⟨o, its, k0, hk, hcl, hda, hz, hv⟩
  have tyv : ∀ H : Hp, tyV K "tuple" (.ref sA) H := fun H => .inr (.inl ⟨rfl, o, hk, hcl, hdi⟩)
  refine F.ok sckey_of (fun vs H Q E h => ?_) (fun cdv A outer s0 H vs Q E hr h => ?_)
  · obtain ⟨x, s, n, row, rfl, _⟩ := h
    rfl
  · obtain ⟨x, s, n, row, rfl, ⟨a, xs, rfl, hx, pn, sr, lr, hc⟩, q⟩ := h
    refine ⟨_, (pss_cons (ps_set (i := 1) sckey_of.nd rfl (.inl rfl) (pe_ix ix_tup (pv 0) pe_int (fun _ _ => rfl)))
      (pss_cons (ps_if (pt_cmpR op_eq (pv 1) pe_str (nomark _)) (pss_one (ps_ret (pe_tup (pa_cons (pe_bm PySem.F.plainAttrs_tuple PySem.F.slot_tuple_index PySem.F.type_tuple_index mt_tup_index (pe_glob (v := .ref sA) rfl gS rfl) (pa_cons (pv 1) pa_nil)) (pa_cons (pe_ix ix_tup (pv 0) pe_int (fun _ _ => rfl)) (pa_cons (pe_ix ix_tup (pv 0) pe_int (fun _ _ => rfl)) pa_nil)))))) pss_nil)
      (pss_one (ps_ret (pe_tup (pa_cons (pe_bm PySem.F.plainAttrs_tuple PySem.F.slot_tuple_index PySem.F.type_tuple_index mt_tup_index (pe_glob (v := .ref sA) rfl gS rfl) (pa_cons (pv 1) pa_nil)) (pa_cons (pe_ix ix_tup (pv 0) pe_int (fun _ _ => rfl)) (pa_cons (pe_tup pa_nil) pa_nil)))))))), ?_⟩
    rcases hc with ⟨rest, rfl, rfl, rfl⟩ | ⟨rest, rfl, rfl, rfl⟩ | ⟨rest, rfl, rfl, rfl⟩ | ⟨r, rfl, rfl, hrw⟩
    · refine ⟨_, rfl, a, _, 0, .str "relation", rfl, rfl, hx, at_of (j := 0) rfl rfl, _, rfl, rfl, _, rfl, ite2 (fun e => absurd e (by decide +kernel)) (fun _ => ?_)⟩
      refine ⟨tyv _, _, rfl, sA, sortWs, _, 0, rfl, rfl, hS _, rfl, fun m hm => absurd hm (Nat.not_lt_zero _), ?_⟩
      refine ⟨_, rfl, a, _, 1, .str n, rfl, rfl, hx, at_of (j := 1) rfl rfl, sz 0, fun u nu => ⟨sz 3, ?_⟩⟩
      exact key_new q (Same.new nu) (SqT.of upd_same) pn sr lr
    · refine ⟨_, rfl, a, _, 0, .str "structure", rfl, rfl, hx, at_of (j := 0) rfl rfl, _, rfl, rfl, _, rfl, ite2 (fun e => absurd e (by decide +kernel)) (fun _ => ?_)⟩
      refine ⟨tyv _, _, rfl, sA, sortWs, _, 2, rfl, rfl, hS _, rfl, by decide +kernel, ?_⟩
      refine ⟨_, rfl, a, _, 1, .str n, rfl, rfl, hx, at_of (j := 1) rfl rfl, sz 0, fun u nu => ⟨sz 3, ?_⟩⟩
      exact key_new q (Same.new nu) (SqT.of upd_same) pn sr lr
    · refine ⟨_, rfl, a, _, 0, .str "layout", rfl, rfl, hx, at_of (j := 0) rfl rfl, _, rfl, rfl, _, rfl, ite2 (fun e => absurd e (by decide +kernel)) (fun _ => ?_)⟩
      refine ⟨tyv _, _, rfl, sA, sortWs, _, 3, rfl, rfl, hS _, rfl, by decide +kernel, ?_⟩
      refine ⟨_, rfl, a, _, 1, .str n, rfl, rfl, hx, at_of (j := 1) rfl rfl, sz 0, fun u nu => ⟨sz 3, ?_⟩⟩
      exact key_new q (Same.new nu) (SqT.of upd_same) pn sr lr
    · refine ⟨_, rfl, a, _, 0, .str "fact", rfl, rfl, hx, at_of (j := 0) rfl rfl, _, rfl, rfl, _, rfl, ite2 (fun _ => ?_) (fun e => absurd (by decide +kernel) e)⟩
      refine ⟨tyv _, _, rfl, sA, sortWs, _, 1, rfl, rfl, hS _, rfl, by decide +kernel, ?_⟩
      refine ⟨_, rfl, a, _, 1, .str n, rfl, rfl, hx, at_of (j := 1) rfl rfl, _, rfl, a, _, 2, .ref r, rfl, rfl, hx, at_of (j := 2) rfl rfl, sz 3, ?_⟩
      exact key_new q (Same.refl H) hrw pn sr lr
end
end K1
namespace K1
open PySem PySem.Spec PyProof.Rows L2 Ow Tlz
abbrev s_law_key_order : Stmt := topS 20
abbrev N_law_key_order : List Str := ["first", "second"]
theorem sc_law_key_order : FnScope N_law_key_order ["first", "second"] (defScope s_law_key_order) := ⟨rfl, rfl, rfl, by decide +kernel, rfl, by decide +kernel, by decide +kernel⟩
theorem cut2 (a b c : V) : cutV [a, b, c] none (some 2) = [a, b] := rfl
theorem lay2 {s : Int} {n : Str} (p : Pr n) : (kd2 s n).canLay0 = true := by
  have a := p.ok
  unfold kd2
  rw [PyData.canLay0, PyData.canLayAll0, PyData.canLayAll0, PyData.canLayAll0, a]
  simp [PyData.canLay0]
theorem deep2 (s : Int) (n : Str) : (kd2 s n).depth ≤ 1 := by
  simp [kd2, PyData.depth, PyData.depthAll]
theorem ok2 (s s' : Int) (n n' : Str) : okD 1 (kd2 s n) (kd2 s' n') = true := by
  simp only [kd2, okD, okL]
  split
  · split <;> rfl
  · rfl
section
variable {P : Program} {w : World} {K : PySem.W.Frag} {mg : Str → Option Value} {base : Heap}
theorem ok_lord {f : Addr} {fd : FuncData} (F : Fun K "_law_key_order" "_law_key_order" s_law_key_order f fd) (T : Bl mg)
    (D_law_order : Kn P w K mg base 2 "_law_order" ["first", "second"] (spOrder K)) :
    FnOk P w K mg base CX0 3 f fd ["first", "second"] (spLOrd K) := by
  refine F.ok sc_law_key_order (fun vs H Q E h => ?_) (fun cdv A outer s0 H vs Q E hr h => ?_)
  · obtain ⟨x, y, s, s', n, n', row, row', rfl, _⟩ := h
    rfl
  · obtain ⟨x, y, s, s', n, n', row, row', rfl, ⟨a, r, rfl, ha, hrw, pn, sr, lr⟩, ⟨b, r', rfl, hb, hrw', pn', sr', lr'⟩, q⟩ := h
    refine ⟨_, (pss_cons (ps_if (pt_cmpR (op_neD (hu64 hr)) (pe_slice sl_tupA (pv 0) po_none (po_some pe_int)) (pe_slice sl_tupA (pv 1) po_none (po_some pe_int)) (nomark _)) (pss_one (ps_ret (pe_ix ix_list (pe_lst (pa_cons pe_int (pa_cons (pe_un un_neg pe_int) pa_nil))) (pe_callTy call_int1 (by rfl) T.int (by decide +kernel) (pa_cons (pe_cmpR (op_ltK hr) (pe_slice sl_tupA (pv 0) po_none (po_some pe_int)) (pe_slice sl_tupA (pv 1) po_none (po_some pe_int)) (nomark _)) pa_nil)) (fun _ _ => rfl)))) pss_nil)
      (pss_one (ps_ret (pe_kn D_law_order hr (pa_cons (pe_ix ix_tup (pv 0) pe_int (fun _ _ => rfl)) (pa_cons (pe_ix ix_tup (pv 1) pe_int (fun _ _ => rfl)) pa_nil)))))), ?_⟩
    refine ⟨_, rfl, 2, rfl, a, _, rfl, ha, fun z => absurd (show (2 : Nat) = 3 from z.2) (by decide), fun _ t1 n1 => ?_⟩
    have s1 : Same H (upd H t1 (.tup (cutV [.int s, .str n, .ref r] none (some 2)))) := Same.new n1
    refine ⟨_, rfl, 2, rfl, b, _, rfl, Tk.same s1 _ _ hb, fun z => absurd (show (2 : Nat) = 3 from z.2) (by decide), fun _ t2 n2 => ?_⟩
    have s2 := Same.new (o := .tup (cutV [.int s', .str n', .ref r'] none (some 2))) n2
    have s12 := s1.trans s2
    refine ⟨kd2 s n, kd2 s' n', .tup (Tk.same s2 _ _ (SqT.of upd_same)) (.cons (.int s) (.cons (.str n) .nil)), .tup (SqT.of upd_same) (.cons (.int s') (.cons (.str n') .nil)),
      shaped_of (lay2 pn) (deep2 s n) (by decide), shaped_of (lay2 pn') (deep2 s' n') (by decide), _, rfl, ite2 (fun e => ?_) (fun e => ?_)⟩
    · refine ⟨1, rfl, by decide, fun o no => ?_⟩
      have s3 := Same.new (o := .lst [V.int 1, V.int (-1)]) no
      have s13 := s12.trans s3
      refine ⟨_, rfl, 2, rfl, a, _, rfl, Tk.same s13 _ _ ha, fun z => absurd (show (2 : Nat) = 3 from z.2) (by decide), fun _ t4 n4 => ?_⟩
      have s4 := Same.new (o := .tup (cutV [.int s, .str n, .ref r] none (some 2))) n4
      have s14 := s13.trans s4
      refine ⟨_, rfl, 2, rfl, b, _, rfl, Tk.same s14 _ _ hb, fun z => absurd (show (2 : Nat) = 3 from z.2) (by decide), fun _ t5 n5 => ?_⟩
      have s5 := Same.new (o := .tup (cutV [.int s', .str n', .ref r'] none (some 2))) n5
      refine ⟨1, kd2 s n, kd2 s' n', ⟨.tup (Tk.same s5 _ _ (SqT.of upd_same)) (.cons (.int s) (.cons (.str n) .nil)), .tup (SqT.of upd_same) (.cons (.int s') (.cons (.str n') .nil)),
        lay2 pn, lay2 pn', deep2 s n, deep2 s' n', ok2 s s' n n', by decide⟩, .inr ⟨_, rfl, ?_⟩⟩
      have eo := s5 _ _ (s4 _ _ (upd_same (H := _) (a := o) (o := .lst [V.int 1, V.int (-1)])))
      have fin : ∀ H', Same H H' → Q (.int (if ltD 1 (kd2 s n) (kd2 s' n') = true then -1 else 1)) H' := fun H' sm => q _ _ (by
        unfold keyOrd
        rw [if_pos e]) sm
      have s15 := s14.trans s5
      cases hl : ltD 1 (kd2 s n) (kd2 s' n') with
      | true =>
        rw [hl] at fin
        exact ⟨o, _, 1, .int (-1), rfl, rfl, SqL.of eo, at_of (j := 1) rfl rfl, fin _ s15⟩
      | false =>
        rw [hl] at fin
        exact ⟨o, _, 0, .int 1, rfl, rfl, SqL.of eo, at_of (j := 0) rfl rfl, fin _ s15⟩
    · refine ⟨_, rfl, a, _, 2, .ref r, rfl, rfl, Tk.same s12 _ _ ha, at_of (j := 2) rfl rfl, _, rfl, b, _, 2, .ref r', rfl, rfl, Tk.same s12 _ _ hb, at_of (j := 2) rfl rfl,
        r, r', row, row', rfl, Tk.same s12 _ _ hrw, Tk.same s12 _ _ hrw', lr, sr, sr', q _ _ ?_ s12⟩
      unfold keyOrd
      rw [if_neg e]
end
end K1
namespace K1
open PySem PySem.Spec PyProof.Rows L2 Ow Tlz
abbrev s_law_item : Stmt := topS 21
abbrev N_law_item : List Str := ["state", "pick", "name", "columns"]
theorem sc_law_item : FnScope N_law_item ["state"] (defScope s_law_item) := ⟨rfl, rfl, rfl, by decide +kernel, rfl, by decide +kernel, by decide +kernel⟩
section
variable {P : Program} {w : World} {K : PySem.W.Frag} {mg : Str → Option Value} {base : Heap}
theorem ok_item {f : Addr} {fd : FuncData} (F : Fun K "_law_item" "_law_item" s_law_item f fd) (T : Bl mg)
    (D_law_next : Kn P w K mg base 3 "_law_next" ["state", "limit"] spNext)
    (D_law_name : Kn P w K mg base 4 "_law_name" ["state"] spName)
    (D_law_row : Kn P w K mg base 6 "_law_row" ["state", "width"] spRow) :
    FnOk P w K mg base CX0 7 f fd ["state"] (spItem K) := by
  refine F.ok sc_law_item (fun vs H Q E h => ?_) (fun cdv A outer s0 H vs Q E hr h => ?_)
  · obtain ⟨p, d, rfl, _⟩ := h
    rfl
  · obtain ⟨p, d, rfl, rg, q⟩ := h
    refine ⟨_, (pss_cons (ps_set (i := 1) sc_law_item.nd rfl (.inl rfl) (pe_kn D_law_next hr (pa_cons (pv 0) (pa_cons pe_int pa_nil))))
      (pss_cons (ps_set (i := 2) sc_law_item.nd rfl (.inl rfl) (pe_kn D_law_name hr (pa_cons (pv 0) pa_nil)))
      (pss_cons (ps_set (i := 3) sc_law_item.nd rfl (.inl rfl) (pe_callTy call_tuple_of (by rfl) T.tuple (by decide +kernel) (pa_cons (pe_slice sl_list (pe_lst (pa_cons pe_str (pa_cons pe_str (pa_cons pe_str (pa_cons pe_str pa_nil))))) po_none (po_some (pe_op op_add pe_int (pe_kn D_law_next hr (pa_cons (pv 0) (pa_cons pe_int pa_nil)))))) pa_nil)))
      (pss_cons (ps_if (pt_cmpR op_lt (pv 1) pe_int (nomark _)) (pss_one (ps_ret (pe_tup (pa_cons pe_str (pa_cons (pv 2) (pa_cons (pv 3) (pa_cons (pe_op op_add pe_int (pe_kn D_law_next hr (pa_cons (pv 0) (pa_cons pe_int pa_nil)))) pa_nil))))))) pss_nil)
      (pss_cons (ps_if (pt_cmpR op_lt (pv 1) pe_int (nomark _)) (pss_one (ps_ret (pe_tup (pa_cons pe_str (pa_cons (pv 2) (pa_cons (pe_kn D_law_row hr (pa_cons (pv 0) (pa_cons (pe_op op_add pe_int (pe_kn D_law_next hr (pa_cons (pv 0) (pa_cons pe_int pa_nil)))) pa_nil))) pa_nil)))))) pss_nil)
      (pss_cons (ps_if (pt_cmpR op_lt (pv 1) pe_int (nomark _)) (pss_one (ps_ret (pe_tup (pa_cons pe_str (pa_cons (pv 2) (pa_cons (pe_kn D_law_name hr (pa_cons (pv 0) pa_nil)) (pa_cons (pv 3) (pa_cons (pe_op op_add pe_int (pe_kn D_law_next hr (pa_cons (pv 0) (pa_cons pe_int pa_nil)))) (pa_cons (pe_op op_add pe_int (pe_kn D_law_next hr (pa_cons (pv 0) (pa_cons pe_int pa_nil)))) pa_nil))))))))) pss_nil)
      (pss_one (ps_ret (pe_tup (pa_cons pe_str (pa_cons (pv 2) (pa_cons (pe_callTy call_tuple_of (by rfl) T.tuple (by decide +kernel) (pa_cons (pe_slice sl_list (pe_lst (pa_cons pe_str (pa_cons pe_str (pa_cons pe_str (pa_cons pe_str pa_nil))))) po_none (po_some (pe_kn D_law_next hr (pa_cons (pv 0) (pa_cons pe_int pa_nil))))) pa_nil)) pa_nil)))))))))))), ?_⟩
    -- pick, name
    refine ⟨_, rfl, p, d, 9, rfl, by decide, rg, ?_⟩
    rintro x1 H1 ⟨b, rfl, b0, b1⟩ gw1 rg1
    refine ⟨_, rfl, p, d, rfl, rg1, ?_⟩
    rintro x2 H2 ⟨n, rfl, pn⟩ gw2 rg2
    have gw12 : Gw p H H2 := gw1.trans gw2
    -- columns
    refine ⟨sz 4, fun o no => ?_⟩
    refine ⟨_, rfl, p, d, 4, rfl, by decide, rg2.same (Same.new no), ?_⟩
    rintro x3 H3 ⟨c, rfl, c0, c1⟩ gw3 rg3
    have eo := gw3.keep upd_same (rg2.free no).1
    refine ⟨1, c, rfl, rfl, _, rfl, o, _, rfl, SqL.of eo, fun o2 no2 => ?_⟩
    refine ⟨o2, _, rfl, .inl ⟨SqL.of upd_same, fun t nt => ?_⟩⟩
    have gw3' : Gw p H H3 := (gw12.trans (Gw.new no)).trans gw3
    have gw4 : ∀ u, Gw p H (upd _ t u) := fun u => (gw3'.trans (Gw.new no2)).trans (Gw.new nt)
    have rg4 : ∀ u, Rng d (upd _ t u) p := fun u => (rg3.same (Same.new no2)).same (Same.new nt)
    -- relation
    refine ⟨_, rfl, _, _, rfl, rfl, _, rfl, ite2 (fun e => ?_) (fun e => ?_)⟩
    · refine ⟨_, rfl, _, rfl, _, rfl, p, d, 40, rfl, by decide, rg4 _, ?_⟩
      rintro x5 H5 ⟨z, rfl, z0, z1⟩ gw5 rg5
      refine ⟨1, z, rfl, rfl, sz 4, fun u nu => q _ _ ⟨0, n, [], u, _, rfl, SqT.of upd_same, pn, fun _ m => (nomatch m), by decide, .inl ⟨_, rfl, rfl, rfl⟩⟩ (((gw4 _).trans gw5).trans (Gw.new nu)) (rg5.same (Same.new nu))⟩
    -- fact
    refine ⟨_, rfl, _, _, rfl, rfl, _, rfl, ite2 (fun e => ?_) (fun e => ?_)⟩
    · refine ⟨_, rfl, _, rfl, _, rfl, p, d, 3, rfl, by decide, rg4 _, ?_⟩
      rintro x5 H5 ⟨z, rfl, z0, z1⟩ gw5 rg5
      have ez : (1 + z : Int) = (((1 + z).toNat : Nat) : Int) := by omega
      refine ⟨1, z, rfl, rfl, p, d, (1 + z).toNat, congrArg (fun t => [V.ref p, V.int t]) ez, by omega, rg5, ?_⟩
      rintro x6 H6 ⟨r, xs, rfl, er, lx, sx⟩ gw6 rg6
      refine ⟨sz 3, fun u nu => q _ _ ⟨1, n, xs, u, _, rfl, SqT.of upd_same, pn, sx, by omega, .inr (.inr (.inr ⟨r, rfl, rfl, Tk.same (Same.new nu) _ _ (SqT.of er)⟩))⟩ ((((gw4 _).trans gw5).trans gw6).trans (Gw.new nu)) (rg6.same (Same.new nu))⟩
    -- structure
    refine ⟨_, rfl, _, _, rfl, rfl, _, rfl, ite2 (fun e => ?_) (fun e => ?_)⟩
    · refine ⟨_, rfl, _, rfl, p, d, rfl, rg4 _, ?_⟩
      rintro x5 H5 ⟨m, rfl, pm⟩ gw5 rg5
      refine ⟨_, rfl, _, rfl, p, d, 16, rfl, by decide, rg5, ?_⟩
      rintro x6 H6 ⟨z, rfl, z0, z1⟩ gw6 rg6
      refine ⟨1, z, rfl, rfl, _, rfl, p, d, 8, rfl, by decide, rg6, ?_⟩
      rintro x7 H7 ⟨y, rfl, y0, y1⟩ gw7 rg7
      refine ⟨1, y, rfl, rfl, sz 6, fun u nu => q _ _ ⟨2, n, [], u, _, rfl, SqT.of upd_same, pn, fun _ m => (nomatch m), by decide, .inr (.inl ⟨_, rfl, rfl, rfl⟩)⟩ (((((gw4 _).trans gw5).trans gw6).trans gw7).trans (Gw.new nu)) (rg7.same (Same.new nu))⟩
    -- layout
    · refine ⟨_, rfl, sz 4, fun o5 no5 => ?_⟩
      refine ⟨_, rfl, p, d, 5, rfl, by decide, (rg4 _).same (Same.new no5), ?_⟩
      rintro x6 H6 ⟨z, rfl, z0, z1⟩ gw6 rg6
      refine ⟨_, rfl, o5, _, rfl, SqL.of (gw6.keep upd_same ((rg4 _).free no5).1), fun o7 no7 => ?_⟩
      refine ⟨o7, _, rfl, .inl ⟨SqL.of upd_same, fun t8 nt8 => ?_⟩⟩
      refine ⟨sz 3, fun u nu => q _ _ ⟨3, n, [], u, _, rfl, SqT.of upd_same, pn, fun _ m => (nomatch m), by decide, .inr (.inr (.inl ⟨_, rfl, rfl, rfl⟩))⟩
        ((((((gw4 _).trans (Gw.new no5)).trans gw6).trans (Gw.new no7)).trans (Gw.new nt8)).trans (Gw.new nu)) (((rg6.same (Same.new no7)).same (Same.new nt8)).same (Same.new nu))⟩
end
end K1
namespace K1
open PySem PySem.Spec PyProof.Rows L2 Ow Tlz
abbrev s_law_agrees : Stmt := topS 22
abbrev N_law_agrees : List Str := ["left", "right", "order"]
theorem sc_law_agrees : FnScope N_law_agrees ["left", "right", "order"] (defScope s_law_agrees) := ⟨rfl, rfl, rfl, by decide +kernel, rfl, by decide +kernel, by decide +kernel⟩
theorem tupT {K : PySem.W.Frag} {H : Hp} {a : Addr} {xs : List V} (h : SqT K H a xs) : TyX K H (.ref a) (.type "tuple") := by
  rcases h with (h | ⟨o, h⟩) | ⟨o, its, n, hk, hc, _⟩
  · exact .base (.tup h)
  · exact .fTuple h
  · exact .kTuple hk hc
theorem isTup {K : PySem.W.Frag} {H : Hp} {x : V} {ds : List PyData} (h : Dp K H x (.tuple ds)) : TyX K H x (.type "tuple") := by
  cases h with
  | tup s _ => exact tupT s
theorem eqv3 (a b c : Bool) : PyData.eqv (.list [.bool a, .bool b, .bool c]) (.list [.bool a, .bool b, .bool c]) = true := by
  simp [PyData.eqv, PyData.eqvAll]
theorem dec_int (o : Int) : decide (V.int o = V.int 0) = decide (o = 0) := by
  by_cases h : o = 0
  · rw [h]; rfl
  · rw [decide_eq_false h]
    exact decide_eq_false fun z => h (V.int.inj z)
theorem shaped3 (a b c : Bool) : SeqAt.shaped (.list [.bool a, .bool b, .bool c]) = true := by
  cases a <;> cases b <;> cases c <;> decide +kernel
section
variable {P : Program} {w : World} {K : PySem.W.Frag} {mg : Str → Option Value} {base : Heap}
theorem ok_agrees {f : Addr} {fd : FuncData} (F : Fun K "_law_agrees" "_law_agrees" s_law_agrees f fd) (T : Bl mg) :
    FnOk P w K mg base CX0 1 f fd ["left", "right", "order"] (spAgrees K) := by
  refine F.ok sc_law_agrees (fun vs H Q E h => ?_) (fun cdv A outer s0 H vs Q E hr h => ?_)
  · obtain ⟨x, y, n, ds, es, o, rfl, _⟩ := h
    rfl
  · obtain ⟨x, y, n, ds, es, o, rfl, cp, ag, q⟩ := h
    refine ⟨_, (pss_cons (ps_if (PW.pt (pw_or (pt_not (pt_val (pe_callB call_isi (by rfl) T.isinstance (by decide +kernel) (pa_cons (pv 0) (pa_cons (pe_ty "tuple" (by rfl) T.tuple (by decide +kernel)) pa_nil))))) (pw_or1 (pt_not (pt_val (pe_callB call_isi (by rfl) T.isinstance (by decide +kernel) (pa_cons (pv 1) (pa_cons (pe_ty "tuple" (by rfl) T.tuple (by decide +kernel)) pa_nil)))))))) (pss_one (ps_ret pe_bl)) pss_nil)
      (pss_one (ps_ret (pe_cmpR (op_eqD (hu64 hr)) (pe_lst (pa_cons (pe_cmpR (op_ltK hr) (pv 0) (pv 1) (nomark _)) (pa_cons (pe_cmpR (op_eqD (hu64 hr)) (pv 0) (pv 1) (nomark _)) (pa_cons (pe_cmpR (op_gtK hr) (pv 0) (pv 1) (nomark _)) pa_nil)))) (pe_lst (pa_cons (pe_cmpR op_lt (pv 2) pe_int (nomark _)) (pa_cons (pe_cmpR op_eq (pv 2) pe_int (nomark _)) (pa_cons (pe_cmpR op_gt (pv 2) pe_int (nomark _)) pa_nil)))) (nomark _))))), ?_⟩
    have h1 := shaped_of cp.cl cp.dl cp.n60
    have h2 := shaped_of cp.cr cp.dr cp.n60
    refine ⟨_, rfl, _, _, .type "tuple", .type "tuple", true, rfl, .ty _, isTup cp.l, kit_ty (by decide +kernel), ?_⟩
    refine ⟨_, rfl, ?_⟩
    refine iteF ?_
    refine ⟨_, rfl, _, _, .type "tuple", .type "tuple", true, rfl, .ty _, isTup cp.r, kit_ty (by decide +kernel), ?_⟩
    refine ⟨_, rfl, ?_⟩
    refine iteF ?_
    refine ⟨_, rfl, _, rfl, n, _, _, cp, _, rfl, _, rfl, _, _, cp.l, cp.r, h1, h2, _, rfl, _, rfl, n, _, _, cp, sz 3, fun o1 n1 => ?_⟩
    refine ⟨_, rfl, _, _, rfl, rfl, _, rfl, rfl, _, rfl, _, _, rfl, rfl, sz 3, fun o2 n2 => ?_⟩
    refine ⟨.list [.bool (ltD n (.tuple ds) (.tuple es)), .bool (PyData.eqv (.tuple ds) (.tuple es)), .bool (gtD n (.tuple ds) (.tuple es))], .list [.bool (decide (o < 0)), .bool (decide (V.int o = V.int 0)), .bool (decide (0 < o))],
      .lst (SqL.of ((Same.new n2) _ _ upd_same)) (.cons (.bl _) (.cons (.bl _) (.cons (.bl _) .nil))), .lst (SqL.of upd_same) (.cons (.bl _) (.cons (.bl _) (.cons (.bl _) .nil))),
      shaped3 _ _ _, shaped3 _ _ _, q _ _ ?_ ((Same.new n1).trans (Same.new n2))⟩
    rw [ag.lt, ag.eq, ag.gt, dec_int, eqv3]
end
end K1
namespace K1
open PySem PySem.Spec PyProof.Rows L2 Ow Tlz
abbrev s_law_is_integer : Stmt := topS 10
abbrev N_law_is_integer : List Str := ["actual"]
theorem sc_law_is_integer : FnScope N_law_is_integer ["actual"] (defScope s_law_is_integer) := ⟨rfl, rfl, rfl, by decide +kernel, rfl, by decide +kernel, by decide +kernel⟩
abbrev s_law_same : Stmt := topS 11
abbrev N_law_same : List Str := ["actual", "expected", "k"]
theorem sc_law_same : FnScope N_law_same ["actual", "expected"] (defScope s_law_same) := ⟨rfl, rfl, rfl, by decide +kernel, rfl, by decide +kernel, by decide +kernel⟩
/-! data of numbers, texts and tuples -/
mutual
def ist : PyData → Bool
  | .int _ => true
  | .str _ => true
  | .tuple xs => decide (xs.length ≤ 1000) && ists xs
  | _ => false
def ists : List PyData → Bool
  | [] => true
  | x :: xs => ist x && ists xs
end
theorem ists_at : ∀ {xs : List PyData}, ists xs = true → ∀ {i : Nat} {d : PyData}, xs[i]? = some d → ist d = true
  | [], _, i, d, h => by simp at h
  | x :: xs, h, i, d, e => by
    rw [ists, Bool.and_eq_true] at h
    cases i with
    | zero =>
      have z : x = d := Option.some.inj e
      rw [← z]; exact h.1
    | succ i => exact ists_at h.2 (i := i) e
mutual
theorem Dp.ist {K : PySem.W.Frag} {H H' : Hp} (t : Tk K H H') : ∀ (d : PyData) (v : V), ist d = true → Dp K H v d → Dp K H' v d
  | .int i, _, _, .int _ => .int i
  | .str x, _, _, .str _ => .str x
  | .none, _, h, _ => by simp [K1.ist] at h
  | .bool _, _, h, _ => by simp [K1.ist] at h
  | .list _, _, h, _ => by simp [K1.ist] at h
  | .tuple xs, _, h, .tup s a => .tup (t _ _ s) (DpAll.ist t xs _ (by rw [K1.ist, Bool.and_eq_true] at h; exact h.2) a)
theorem DpAll.ist {K : PySem.W.Frag} {H H' : Hp} (t : Tk K H H') : ∀ (ds : List PyData) (vs : List V), ists ds = true → DpAll K H vs ds → DpAll K H' vs ds
  | [], _, _, .nil => .nil
  | d :: ds, _, h, .cons a b => by
    rw [ists, Bool.and_eq_true] at h
    exact .cons (Dp.ist t d _ h.1 a) (DpAll.ist t ds _ h.2 b)
end
theorem DpAll.len {K : PySem.W.Frag} {H : Hp} : ∀ {vs : List V} {ds : List PyData}, DpAll K H vs ds → vs.length = ds.length
  | _, _, .nil => rfl
  | _, _, .cons _ b => by rw [List.length_cons, List.length_cons, DpAll.len b]
theorem DpAll.get {K : PySem.W.Frag} {H : Hp} : ∀ {vs : List V} {ds : List PyData}, DpAll K H vs ds → ∀ {i : Nat} {d : PyData}, ds[i]? = some d → ∃ v, vs[i]? = some v ∧ Dp K H v d
  | _, _, .nil, i, d, h => by simp at h
  | _, _, .cons a b, 0, d, h => by
    have e := Option.some.inj h
    subst e
    exact ⟨_, rfl, a⟩
  | _, _, .cons a b, i + 1, d, h => DpAll.get b (i := i) h
theorem depth_at : ∀ {xs : List PyData} {n : Nat}, PyData.depthAll xs ≤ n → ∀ {i : Nat} {d : PyData}, xs[i]? = some d → d.depth ≤ n
  | [], _, _, i, d, h => by simp at h
  | x :: xs, n, h, i, d, e => by
    rw [PyData.depthAll] at h
    cases i with
    | zero =>
      have z : x = d := Option.some.inj e
      rw [← z]; exact Nat.le_trans (Nat.le_max_left _ _) h
    | succ i => exact depth_at (Nat.le_trans (Nat.le_max_right _ _) h) (i := i) e
def spIsInt : Sp := fun vs H Q _ => ∃ i : Int, vs = [.int i] ∧ Q (.bl true) H
/-- two equal data of numbers, texts and tuples, n deep at most -/
def spSame2 (K : PySem.W.Frag) (n : Nat) : Sp := fun vs H Q _ => ∃ (x y : V) (d : PyData), vs = [x, y] ∧ Dp K H x d ∧ Dp K H y d ∧ ist d = true ∧ d.depth ≤ n ∧
  Mak H Q fun z _ => z = .bl true
theorem tupT2 {K : PySem.W.Frag} {H : Hp} {a : Addr} {xs : List V} (h : SqT K H a xs) : TyX K H (.ref a) (.type "tuple") := by
  rcases h with (h | ⟨o, h⟩) | ⟨o, its, n, hk, hc, _⟩
  · exact .base (.tup h)
  · exact .fTuple h
  · exact .kTuple hk hc
theorem kitI {K : PySem.W.Frag} : PySem.W.kitAny K (.type "int") [.type "list", .type "tuple"] = some false :=
  kitAny_cons (b := false) (kit_ty (by decide +kernel)) (fun _ => kitAny_cons (b := false) (kit_ty (by decide +kernel)) (fun _ => rfl) (fun h => Bool.noConfusion h)) (fun h => Bool.noConfusion h)
theorem kitS {K : PySem.W.Frag} : PySem.W.kitAny K (.type "str") [.type "list", .type "tuple"] = some false :=
  kitAny_cons (b := false) (kit_ty (by decide +kernel)) (fun _ => kitAny_cons (b := false) (kit_ty (by decide +kernel)) (fun _ => rfl) (fun h => Bool.noConfusion h)) (fun h => Bool.noConfusion h)
theorem kitT {K : PySem.W.Frag} : PySem.W.kitAny K (.type "tuple") [.type "list", .type "tuple"] = some true :=
  kitAny_cons (b := false) (kit_ty (by decide +kernel)) (fun _ => kitAny_cons (b := true) (kit_ty (by decide +kernel)) (fun h => Bool.noConfusion h) (fun _ => rfl)) (fun h => Bool.noConfusion h)
section
variable {P : Program} {w : World} {K : PySem.W.Frag} {mg : Str → Option Value} {base : Heap}
theorem ok_isint {f : Addr} {fd : FuncData} (F : Fun K "_law_is_integer" "_law_is_integer" s_law_is_integer f fd) (T : Bl mg) :
    FnOk P w K mg base CX0 1 f fd ["actual"] spIsInt := by
  refine F.ok sc_law_is_integer (fun vs H Q E h => ?_) (fun cdv A outer s0 H vs Q E hr h => ?_)
  · obtain ⟨i, rfl, _⟩ := h
    rfl
  · obtain ⟨i, rfl, q⟩ := h
    refine ⟨_, (pss_one (ps_ret (pe_and (pe_callB call_isi (by rfl) T.isinstance (by decide +kernel) (pa_cons (pv 0) (pa_cons (pe_ty "int" (by rfl) T.int (by decide +kernel)) pa_nil))) (pe_one (pe_not (pe_callB call_isi (by rfl) T.isinstance (by decide +kernel) (pa_cons (pv 0) (pa_cons (pe_ty "bool" (by rfl) T.bool (by decide +kernel)) pa_nil)))))))), ?_⟩
    refine ⟨_, rfl, _, _, .type "int", .type "int", true, rfl, .ty _, .base (.int i), kit_ty (by decide +kernel), ?_⟩
    refine ⟨_, rfl, iteT ?_⟩
    refine ⟨_, rfl, _, _, .type "int", .type "bool", false, rfl, .ty _, .base (.int i), kit_ty (by decide +kernel), ?_⟩
    exact ⟨_, rfl, q⟩
/-- the scalar ways -/
theorem ok_same0 {f : Addr} {fd : FuncData} (F : Fun K "_law_same" "_law_same" s_law_same f fd) (T : Bl mg)
    (D_law_is_integer : Kn P w K mg base 1 "_law_is_integer" ["actual"] spIsInt) :
    FnOk P w K mg base CX0 2 f fd ["actual", "expected"] (spSame2 K 0) := by
  refine F.ok sc_law_same (fun vs H Q E h => ?_) (fun cdv A outer s0 H vs Q E hr h => ?_)
  · obtain ⟨x, y, d, rfl, _⟩ := h
    rfl
  · obtain ⟨x, y, d, rfl, hx, hy, hi, hd, q⟩ := h
    refine ⟨_, (pss_cons (ps_if (pt_val (pe_callB call_isiT (by rfl) T.isinstance (by decide +kernel) (pa_cons (pv 1) (pa_cons (pe_tup (pa_cons (pe_ty "list" (by rfl) T.list (by decide +kernel)) (pa_cons (pe_ty "tuple" (by rfl) T.tuple (by decide +kernel)) pa_nil))) pa_nil)))) pss_never pss_nil)
      (pss_cons (ps_if (pt_cmpR op_isN (pv 1) pe_non (nomark _)) (pss_one (ps_ret (pe_cmpR op_isN (pv 0) pe_non (nomark _)))) pss_nil)
      (pss_cons (ps_if (pt_val (pe_callB call_isi (by rfl) T.isinstance (by decide +kernel) (pa_cons (pv 1) (pa_cons (pe_ty "bool" (by rfl) T.bool (by decide +kernel)) pa_nil)))) pss_never pss_nil)
      (pss_cons (ps_if (pt_val (pe_callB call_isi (by rfl) T.isinstance (by decide +kernel) (pa_cons (pv 1) (pa_cons (pe_ty "int" (by rfl) T.int (by decide +kernel)) pa_nil)))) (pss_one (ps_ret (pe_and (pe_kn D_law_is_integer hr (pa_cons (pv 0) pa_nil)) (pe_one (pe_cmpR op_eq (pv 0) (pv 1) (nomark _)))))) pss_nil)
      (pss_one (ps_ret (pe_and (pe_callB call_isi (by rfl) T.isinstance (by decide +kernel) (pa_cons (pv 0) (pa_cons (pe_ty "str" (by rfl) T.str (by decide +kernel)) pa_nil))) (pe_one (pe_cmpR op_eq (pv 0) (pv 1) (nomark _)))))))))), ?_⟩
    cases hy with
    | int i =>
      cases hx
      refine ⟨_, rfl, sz 2, fun t nt => ?_⟩
      refine ⟨_, _, _, _, _, false, rfl, upd_same, .cons (.ty "list") (.cons (.ty "tuple") .nil), .base (.int i), kitI, ?_⟩
      refine ⟨_, rfl, iteF ?_⟩
      refine ⟨_, rfl, rfl, _, rfl, ite2 (fun e => absurd e (by simp)) (fun _ => ?_)⟩
      refine ⟨_, rfl, _, _, .type "int", .type "bool", false, rfl, .ty _, .base (.int i), kit_ty (by decide +kernel), ?_⟩
      refine ⟨_, rfl, iteF ?_⟩
      refine ⟨_, rfl, _, _, .type "int", .type "int", true, rfl, .ty _, .base (.int i), kit_ty (by decide +kernel), ?_⟩
      refine ⟨_, rfl, iteT ?_⟩
      refine ⟨_, rfl, i, rfl, _, rfl, iteT ?_⟩
      exact ⟨_, rfl, _, rfl, rfl, q _ _ (by rw [decide_eq_true rfl]) (Same.new nt)⟩
    | str z =>
      cases hx
      refine ⟨_, rfl, sz 2, fun t nt => ?_⟩
      refine ⟨_, _, _, _, _, false, rfl, upd_same, .cons (.ty "list") (.cons (.ty "tuple") .nil), .base (.str z), kitS, ?_⟩
      refine ⟨_, rfl, iteF ?_⟩
      refine ⟨_, rfl, rfl, _, rfl, ite2 (fun e => absurd e (by simp)) (fun _ => ?_)⟩
      refine ⟨_, rfl, _, _, .type "str", .type "bool", false, rfl, .ty _, .base (.str z), kit_ty (by decide +kernel), ?_⟩
      refine ⟨_, rfl, iteF ?_⟩
      refine ⟨_, rfl, _, _, .type "str", .type "int", false, rfl, .ty _, .base (.str z), kit_ty (by decide +kernel), ?_⟩
      refine ⟨_, rfl, iteF ?_⟩
      refine ⟨_, rfl, _, _, .type "str", .type "str", true, rfl, .ty _, .base (.str z), kit_ty (by decide +kernel), ?_⟩
      refine ⟨_, rfl, iteT ?_⟩
      exact ⟨_, rfl, _, rfl, rfl, q _ _ (by rw [decide_eq_true rfl]) (Same.new nt)⟩
    | tup _ _ => exact absurd hd (by rw [PyData.depth]; omega)
    | _ => exact absurd hi (by simp [K1.ist])
theorem ok_sameS {f : Addr} {fd : FuncData} (F : Fun K "_law_same" "_law_same" s_law_same f fd) (T : Bl mg) {n : Nat}
    (D_law_is_integer : Kn P w K mg base 1 "_law_is_integer" ["actual"] spIsInt)
    (D_law_same : Kn P w K mg base (n + 2) "_law_same" ["actual", "expected"] (spSame2 K n)) :
    FnOk P w K mg base CX0 (n + 3) f fd ["actual", "expected"] (spSame2 K (n + 1)) := by
  refine F.ok sc_law_same (fun vs H Q E h => ?_) (fun cdv A outer s0 H vs Q E hr h => ?_)
  · obtain ⟨x, y, d, rfl, _⟩ := h
    rfl
  · obtain ⟨x, y, d, rfl, hx, hy, hi, hd, q⟩ := h
    refine ⟨_, (pss_cons (ps_if (pt_val (pe_callB call_isiT (by rfl) T.isinstance (by decide +kernel) (pa_cons (pv 1) (pa_cons (pe_tup (pa_cons (pe_ty "list" (by rfl) T.list (by decide +kernel)) (pa_cons (pe_ty "tuple" (by rfl) T.tuple (by decide +kernel)) pa_nil))) pa_nil)))) (pss_cons (ps_if (PW.pt (pw_or (pt_cmpR op_ne (pe_callB call_isi (by rfl) T.isinstance (by decide +kernel) (pa_cons (pv 1) (pa_cons (pe_ty "list" (by rfl) T.list (by decide +kernel)) pa_nil))) (pe_callB call_isi (by rfl) T.isinstance (by decide +kernel) (pa_cons (pv 0) (pa_cons (pe_ty "list" (by rfl) T.list (by decide +kernel)) pa_nil))) (nomark _)) (pw_or1 (pt_cmpR op_ne (pe_callB call_isi (by rfl) T.isinstance (by decide +kernel) (pa_cons (pv 1) (pa_cons (pe_ty "tuple" (by rfl) T.tuple (by decide +kernel)) pa_nil))) (pe_callB call_isi (by rfl) T.isinstance (by decide +kernel) (pa_cons (pv 0) (pa_cons (pe_ty "tuple" (by rfl) T.tuple (by decide +kernel)) pa_nil))) (nomark _))))) (pss_one (ps_ret pe_bl)) pss_nil)
      (pss_cons (ps_if (pt_cmpR op_ne (pe_callB call_len_seq (by rfl) T.len PySem.boot_len (pa_cons (pv 0) pa_nil)) (pe_callB call_len_seq (by rfl) T.len PySem.boot_len (pa_cons (pv 1) pa_nil)) (nomark _)) (pss_one (ps_ret pe_bl)) pss_nil)
      (pss_cons (ps_for PassesOwn.never rfl (pi_range1 (by rfl) T.range (pa_cons (pe_callB call_len_seq (by rfl) T.len PySem.boot_len (pa_cons (pv 1) pa_nil)) pa_nil)) (pg_name (i := 2) sc_law_same.nd rfl (.inl rfl)) (pss_one (ps_if (pt_not (pt_val (pe_kn D_law_same hr (pa_cons (pe_ix ix_seq (pv 0) (pv 2) (fun _ _ => rfl)) (pa_cons (pe_ix ix_seq (pv 1) (pv 2) (fun _ _ => rfl)) pa_nil)) (Nat.le_refl _)))) (pss_one (ps_ret pe_bl)) pss_nil)))
      (pss_one (ps_ret pe_bl))))) pss_nil)
      (pss_cons (ps_if (pt_cmpR op_isN (pv 1) pe_non (nomark _)) (pss_one (ps_ret (pe_cmpR op_isN (pv 0) pe_non (nomark _)))) pss_nil)
      (pss_cons (ps_if (pt_val (pe_callB call_isi (by rfl) T.isinstance (by decide +kernel) (pa_cons (pv 1) (pa_cons (pe_ty "bool" (by rfl) T.bool (by decide +kernel)) pa_nil)))) pss_never pss_nil)
      (pss_cons (ps_if (pt_val (pe_callB call_isi (by rfl) T.isinstance (by decide +kernel) (pa_cons (pv 1) (pa_cons (pe_ty "int" (by rfl) T.int (by decide +kernel)) pa_nil)))) (pss_one (ps_ret (pe_and (pe_kn D_law_is_integer hr (pa_cons (pv 0) pa_nil) (by omega)) (pe_one (pe_cmpR op_eq (pv 0) (pv 1) (nomark _)))))) pss_nil)
      (pss_one (ps_ret (pe_and (pe_callB call_isi (by rfl) T.isinstance (by decide +kernel) (pa_cons (pv 0) (pa_cons (pe_ty "str" (by rfl) T.str (by decide +kernel)) pa_nil))) (pe_one (pe_cmpR op_eq (pv 0) (pv 1) (nomark _)))))))))), ?_⟩
    cases hy with
    | int i =>
      cases hx
      refine ⟨_, rfl, sz 2, fun t nt => ?_⟩
      refine ⟨_, _, _, _, _, false, rfl, upd_same, .cons (.ty "list") (.cons (.ty "tuple") .nil), .base (.int i), kitI, ?_⟩
      refine ⟨_, rfl, iteF ?_⟩
      refine ⟨_, rfl, rfl, _, rfl, ite2 (fun e => absurd e (by simp)) (fun _ => ?_)⟩
      refine ⟨_, rfl, _, _, .type "int", .type "bool", false, rfl, .ty _, .base (.int i), kit_ty (by decide +kernel), ?_⟩
      refine ⟨_, rfl, iteF ?_⟩
      refine ⟨_, rfl, _, _, .type "int", .type "int", true, rfl, .ty _, .base (.int i), kit_ty (by decide +kernel), ?_⟩
      refine ⟨_, rfl, iteT ?_⟩
      refine ⟨_, rfl, i, rfl, _, rfl, iteT ?_⟩
      exact ⟨_, rfl, _, rfl, rfl, q _ _ (by rw [decide_eq_true rfl]) (Same.new nt)⟩
    | str z =>
      cases hx
      refine ⟨_, rfl, sz 2, fun t nt => ?_⟩
      refine ⟨_, _, _, _, _, false, rfl, upd_same, .cons (.ty "list") (.cons (.ty "tuple") .nil), .base (.str z), kitS, ?_⟩
      refine ⟨_, rfl, iteF ?_⟩
      refine ⟨_, rfl, rfl, _, rfl, ite2 (fun e => absurd e (by simp)) (fun _ => ?_)⟩
      refine ⟨_, rfl, _, _, .type "str", .type "bool", false, rfl, .ty _, .base (.str z), kit_ty (by decide +kernel), ?_⟩
      refine ⟨_, rfl, iteF ?_⟩
      refine ⟨_, rfl, _, _, .type "str", .type "int", false, rfl, .ty _, .base (.str z), kit_ty (by decide +kernel), ?_⟩
      refine ⟨_, rfl, iteF ?_⟩
      refine ⟨_, rfl, _, _, .type "str", .type "str", true, rfl, .ty _, .base (.str z), kit_ty (by decide +kernel), ?_⟩
      refine ⟨_, rfl, iteT ?_⟩
      exact ⟨_, rfl, _, rfl, rfl, q _ _ (by rw [decide_eq_true rfl]) (Same.new nt)⟩
    | @tup b ys ds sy ay =>
      cases hx with
      | @tup a xs _ sx ax =>
        have lx := DpAll.len ax
        have ly := DpAll.len ay
        refine ⟨_, rfl, sz 2, fun t nt => ?_⟩
        have s1 := Same.new (o := .tup [.ty "list", .ty "tuple"]) nt
        have t1 : Tk K H _ := Tk.same s1
        have tx := tupT2 (t1 _ _ sx)
        have ty := tupT2 (t1 _ _ sy)
        refine ⟨_, _, _, _, _, true, rfl, upd_same, .cons (.ty "list") (.cons (.ty "tuple") .nil), ty, kitT, ?_⟩
        refine ⟨_, rfl, iteT ?_⟩
        refine ⟨_, rfl, _, _, .type "tuple", .type "list", false, rfl, .ty _, ty, kit_ty (by decide +kernel), ?_⟩
        refine ⟨_, rfl, _, _, .type "tuple", .type "list", false, rfl, .ty _, tx, kit_ty (by decide +kernel), ?_⟩
        refine ⟨rfl, _, rfl, ?_⟩
        refine iteF ?_
        refine ⟨_, rfl, _, _, .type "tuple", .type "tuple", true, rfl, .ty _, ty, kit_ty (by decide +kernel), ?_⟩
        refine ⟨_, rfl, _, _, .type "tuple", .type "tuple", true, rfl, .ty _, tx, kit_ty (by decide +kernel), ?_⟩
        refine ⟨rfl, _, rfl, ?_⟩
        refine iteF ?_
        refine ⟨_, rfl, a, xs, rfl, .inr (t1 _ _ sx), _, rfl, b, ys, rfl, .inr (t1 _ _ sy), rfl, _, rfl, ?_⟩
        rw [lx, ly]
        refine iteNS rfl ?_
        have bd : ds.length ≤ 1000 := by
          rw [K1.ist, Bool.and_eq_true] at hi
          exact of_decide_eq_true hi.1
        refine ⟨_, rfl, b, ys, rfl, .inr (t1 _ _ sy), (ys.length : Int), rfl, by omega, by omega, for_range (lo := 0) (n := (ys.length : Int).toNat) (fun i σ H4 => ∃ y2 : Option V, σ = [some (.ref a), some (.ref b), y2] ∧ Same H H4)
          ⟨none, rfl, s1⟩ (fun i σ H4 hi4 hP => ?_) (fun σ H4 hP => ?_)⟩
        · obtain ⟨y2, rfl, sm⟩ := hP
          have il : i < ds.length := by omega
          have ed := List.getElem?_eq_getElem il
          obtain ⟨u, eu, du⟩ := DpAll.get ax ed
          obtain ⟨v, ev, dv⟩ := DpAll.get ay ed
          have t4 : Tk K H H4 := Tk.same sm
          have id : ist ds[i] = true := ists_at (by rw [K1.ist, Bool.and_eq_true] at hi; exact hi.2) ed
          have dd : PyData.depthAll ds ≤ n := by
            rw [PyData.depth] at hd
            omega
          refine ⟨_, rfl, _, rfl, .inr (.inl ⟨a, xs, _, u, rfl, rfl, t4 _ _ sx, at_of (j := i) (by omega) eu, _, rfl, _, rfl, .inr (.inl ⟨b, ys, _, v, rfl, rfl, t4 _ _ sy, at_of (j := i) (by omega) ev, u, v, ds[i], rfl,
            Dp.ist t4 _ _ id du, Dp.ist t4 _ _ id dv, id, depth_at dd ed, ?_⟩)⟩)⟩
          rintro z H5 rfl s5
          exact ⟨_, rfl, iteF ⟨_, rfl, sm.trans s5⟩⟩
        · obtain ⟨y2, rfl, sm⟩ := hP
          exact q _ _ rfl sm
    | _ => exact absurd hi (by simp [K1.ist])
end
end K1
namespace K1
open PySem PySem.Spec PyProof.Rows L2 Ow Tlz
abbrev slaw : Stmt := topS 23
abbrev Nlaw : List Str := ["script", "state", "k", "values", "rows", "first", "second", "order", "keys", "item"]
theorem sclaw : FnScope Nlaw ["script"] (defScope slaw) := ⟨rfl, rfl, rfl, by decide +kernel, rfl, by decide +kernel, by decide +kernel⟩
theorem Rng.tk {K : PySem.W.Frag} {d p : Addr} {H H' : Hp} (r : Rng d H p) (g : Gw p H H') : Tk K H H' := by
  obtain ⟨ds, k, h, _⟩ := r
  exact Tk.gw h g
def RowAt (K : PySem.W.Frag) (b : Nat) (H : Hp) (x : V) : Prop := ∃ (a : Addr) (xs : List V), x = .ref a ∧ SqT K H a xs ∧ (∀ y ∈ xs, Scal y) ∧ xs.length ≤ b
theorem RowAt.tk {K : PySem.W.Frag} {b : Nat} {H H' : Hp} {x : V} (t : Tk K H H') (h : RowAt K b H x) : RowAt K b H' x := by
  obtain ⟨a, xs, e, h1, h2⟩ := h
  exact ⟨a, xs, e, t _ _ h1, h2⟩
theorem RowAt.up {K : PySem.W.Frag} {H : Hp} {x : V} (h : RowAt K 100 H x) : RowAt K 500 H x := by
  obtain ⟨a, xs, e, h1, h2, h3⟩ := h
  exact ⟨a, xs, e, h1, h2, by omega⟩
theorem vk_tup {x : V} (h : Scal x) : ∃ ds, vkD x = .tuple ds := by
  rcases h with ⟨i, rfl⟩ | ⟨z, rfl, _⟩
  · exact ⟨_, rfl⟩
  · exact ⟨_, rfl⟩
theorem one_all {x : V} (h : Scal x) : ∀ y ∈ [x], Scal y := fun y m => by
  rw [List.mem_singleton.mp m]
  exact h
/-- a value as data -/
def scD : V → PyData
  | .int i => .int i
  | .str z => .str z
  | _ => .none
def kPD (s : Int) (n : Str) (row : List V) : PyData := .tuple [.int s, .str n, .tuple (row.map scD)]
theorem sc_all {K : PySem.W.Frag} {H : Hp} : ∀ {xs : List V}, (∀ x ∈ xs, Scal x) → DpAll K H xs (xs.map scD) ∧ ists (xs.map scD) = true ∧ PyData.depthAll (xs.map scD) = 0
  | [], _ => ⟨.nil, by simp [ists], by simp [PyData.depthAll]⟩
  | x :: xs, h => by
    obtain ⟨h1, h2, h3⟩ := sc_all (K := K) (H := H) fun z m => h z (List.mem_cons_of_mem _ m)
    rcases h x List.mem_cons_self with ⟨i, rfl⟩ | ⟨z, rfl, _⟩
    · exact ⟨.cons (.int i) h1, by rw [List.map_cons, ists, h2]; simp [scD, ist], by rw [List.map_cons, PyData.depthAll, h3]; simp [scD, PyData.depth]⟩
    · exact ⟨.cons (.str z) h1, by rw [List.map_cons, ists, h2]; simp [scD, ist], by rw [List.map_cons, PyData.depthAll, h3]; simp [scD, PyData.depth]⟩
theorem key_dp {K : PySem.W.Frag} {H : Hp} {x : V} {s : Int} {n : Str} {row : List V} (h : KeyAt K H x s n row) : Dp K H x (kPD s n row) ∧ ist (kPD s n row) = true ∧ (kPD s n row).depth ≤ 2 := by
  obtain ⟨a, r, rfl, ha, hr, pn, sr, lr⟩ := h
  obtain ⟨h1, h2, h3⟩ := sc_all (K := K) (H := H) sr
  refine ⟨.tup ha (.cons (.int s) (.cons (.str n) (.cons (.tup hr h1) .nil))), ?_, ?_⟩
  · unfold kPD
    simp only [ist, ists, h2, List.length_map, Bool.and_true, Bool.true_and]
    simp [lr]
  · unfold kPD
    simp [PyData.depth, PyData.depthAll, h3]
def spLaw (K : PySem.W.Frag) : Sp := fun vs H Q _ => ∃ (a : Addr) (ns : List Int), vs = [.ref a] ∧ SqL K H a (ns.map V.int) ∧ ns.length ≤ 63 ∧ ∀ H', Q (.bl true) H'
theorem ix1 {n : Nat} (h : 1 < n) : ixN n 1 = some 1 := by
  unfold ixN
  simp
  omega
section
variable {P : Program} {w : World} {K : PySem.W.Frag} {mg : Str → Option Value} {base : Heap}
theorem ok_law {f : Addr} {fd : FuncData} (F : Fun K "law" "law" slaw f fd) (T : Bl mg)
    (D_law_draws : Kn P w K mg base 2 "_law_draws" ["script"] (spDraws K))
    (D_law_next : Kn P w K mg base 3 "_law_next" ["state", "limit"] spNext)
    (D_law_value : Kn P w K mg base 5 "_law_value" ["state"] spValue)
    (D_law_row : Kn P w K mg base 6 "_law_row" ["state", "width"] spRow)
    (D_law_order : Kn P w K mg base 2 "_law_order" ["first", "second"] (spOrder K))
    (D_law_agrees : Kn P w K mg base 1 "_law_agrees" ["left", "right", "order"] (spAgrees K))
    (Dvalue_key : Kn P w K mg base 1 "value_key" ["value"] (spVKey K))
    (Drow_key : Kn P w K mg base 2 "row_key" ["row"] (spRKey K))
    (D_law_item : Kn P w K mg base 7 "_law_item" ["state"] (spItem K))
    (D_law_same : Kn P w K mg base 4 "_law_same" ["actual", "expected"] (spSame2 K 2))
    (Dkey_of : Kn P w K mg base 1 "key_of" ["item"] (spLKey K))
    (D_law_key : Kn P w K mg base 1 "_law_key" ["item"] (spLKey K))
    (Dkey_order : Kn P w K mg base 3 "key_order" ["key"] (spKOrd K))
    (D_law_key_order : Kn P w K mg base 3 "_law_key_order" ["first", "second"] (spLOrd K)) :
    FnOk P w K mg base CX0 8 f fd ["script"] (spLaw K) := by
  refine F.ok sclaw (fun vs H Q E h => ?_) (fun cdv A outer s0 H vs Q E hr h => ?_)
  · obtain ⟨a, ns, rfl, _⟩ := h
    rfl
  · obtain ⟨a, ns, rfl, hS, hlen, q⟩ := h
    refine ⟨_, (pss_cons (ps_set (i := 1) sclaw.nd rfl (.inr rfl) (pe_lst (pa_cons (pe_kn D_law_draws hr (pa_cons (pv 0) pa_nil)) (pa_cons pe_int pa_nil))))
      (pss_cons (ps_setLc (i := 3) (own := [("k", 2)]) (g := gName 2) rfl sclaw.nd rfl rfl (sw_true rfl rfl rfl (by decide +kernel)) (pi_range1 (by rfl) T.range (pa_cons (pe_kn D_law_next hr (pa_cons (pv 1) (pa_cons pe_int pa_nil))) pa_nil)) (blkOk_by (own := [("k", 2)]) (N := Nlaw) (sc := defScope slaw) (by decide +kernel)) (fun _ _ _ _ _ => pg_name (i := 2) sclaw.nd rfl (Or.inl rfl)) (fun _ _ _ _ _ => pts_nil) (fun _ _ _ _ _ => (pe_kn D_law_value hr (pa_cons (pv 1) pa_nil))))
      (pss_cons (ps_setLc (i := 4) (own := [("k", 2)]) (g := gName 2) rfl sclaw.nd rfl rfl (sw_true rfl rfl rfl (by decide +kernel)) (pi_range1 (by rfl) T.range (pa_cons (pe_kn D_law_next hr (pa_cons (pv 1) (pa_cons pe_int pa_nil))) pa_nil)) (blkOk_by (own := [("k", 2)]) (N := Nlaw) (sc := defScope slaw) (by decide +kernel)) (fun _ _ _ _ _ => pg_name (i := 2) sclaw.nd rfl (Or.inl rfl)) (fun _ _ _ _ _ => pts_nil) (fun _ _ _ _ _ => (pe_kn D_law_row hr (pa_cons (pv 1) (pa_cons (pe_kn D_law_next hr (pa_cons (pv 1) (pa_cons pe_int pa_nil))) pa_nil)))))
      (pss_mid (ps_if (pt_cmpR op_gt (pe_callB call_len_seq (by rfl) T.len PySem.boot_len (pa_cons (pv 4) pa_nil)) pe_int (nomark _)) (pss_one (ps_asg (pe_op op_catA (pe_ix ix_list (pv 4) pe_int (fun _ _ => rfl)) (pe_kn D_law_row hr (pa_cons (pv 1) (pa_cons (pe_kn D_law_next hr (pa_cons (pv 1) (pa_cons pe_int pa_nil))) pa_nil)))) (pg_sub (pv 4) pe_int set_list))) pss_nil)
      (pss_cons (ps_for PassesOwn.never rfl (pi_list (pv 3)) (pg_name (i := 5) sclaw.nd rfl (.inl rfl)) (pss_one (ps_for PassesOwn.never rfl (pi_list (pv 3)) (pg_name (i := 6) sclaw.nd rfl (.inl rfl)) (pss_cons (ps_set (i := 7) sclaw.nd rfl (.inl rfl) (pe_kn D_law_order hr (pa_cons (pe_tup (pa_cons (pv 5) pa_nil)) (pa_cons (pe_tup (pa_cons (pv 6) pa_nil)) pa_nil))))
      (pss_one (ps_if (pt_not (pt_val (pe_kn D_law_agrees hr (pa_cons (pe_kn Dvalue_key hr (pa_cons (pv 5) pa_nil)) (pa_cons (pe_kn Dvalue_key hr (pa_cons (pv 6) pa_nil)) (pa_cons (pv 7) pa_nil)))))) (pss_one (ps_ret pe_bl)) pss_nil))))))
      (pss_cons (ps_for PassesOwn.never rfl (pi_list (pv 4)) (pg_name (i := 5) sclaw.nd rfl (.inl rfl)) (pss_one (ps_for PassesOwn.never rfl (pi_list (pv 4)) (pg_name (i := 6) sclaw.nd rfl (.inl rfl)) (pss_one (ps_if (pt_not (pt_val (pe_kn D_law_agrees hr (pa_cons (pe_kn Drow_key hr (pa_cons (pv 5) pa_nil)) (pa_cons (pe_kn Drow_key hr (pa_cons (pv 6) pa_nil)) (pa_cons (pe_kn D_law_order hr (pa_cons (pv 5) (pa_cons (pv 6) pa_nil))) pa_nil)))))) (pss_one (ps_ret pe_bl)) pss_nil)))))
      (pss_cons (ps_set (i := 8) sclaw.nd rfl (.inl rfl) (pe_lst pa_nil))
      (pss_cons (ps_for PassesOwn.never rfl (pi_range1 (by rfl) T.range (pa_cons (pe_kn D_law_next hr (pa_cons (pv 1) (pa_cons pe_int pa_nil))) pa_nil)) (pg_name (i := 2) sclaw.nd rfl (.inl rfl)) (pss_cons (ps_set (i := 9) sclaw.nd rfl (.inl rfl) (pe_kn D_law_item hr (pa_cons (pv 1) pa_nil)))
      (pss_cons (ps_if (pt_not (pt_val (pe_kn D_law_same hr (pa_cons (pe_kn Dkey_of hr (pa_cons (pv 9) pa_nil)) (pa_cons (pe_kn D_law_key hr (pa_cons (pv 9) pa_nil)) pa_nil))))) (pss_one (ps_ret pe_bl)) pss_nil)
      (pss_one (ps_expr (pe_bm PySem.F.plainAttrs_list PySem.F.slot_list_append PySem.F.type_list_append mt_append (pv 8) (pa_cons (pe_kn D_law_key hr (pa_cons (pv 9) pa_nil)) pa_nil)))))))
      (pss_cons (ps_for PassesOwn.never rfl (pi_list (pv 8)) (pg_name (i := 5) sclaw.nd rfl (.inl rfl)) (pss_one (ps_for PassesOwn.never rfl (pi_list (pv 8)) (pg_name (i := 6) sclaw.nd rfl (.inl rfl)) (pss_one (ps_if (pt_not (pt_val (pe_kn D_law_agrees hr (pa_cons (pe_kn Dkey_order hr (pa_cons (pv 5) pa_nil)) (pa_cons (pe_kn Dkey_order hr (pa_cons (pv 6) pa_nil)) (pa_cons (pe_kn D_law_key_order hr (pa_cons (pv 5) (pa_cons (pv 6) pa_nil))) pa_nil)))))) (pss_one (ps_ret pe_bl)) pss_nil)))))
      (pss_one (ps_ret pe_bl))))))))))), ?_⟩
    -- state = [_law_draws(script), 20]
    refine ⟨_, rfl, a, ns, rfl, hS, hlen, ?_⟩
    intro H1 d ds sm1 nd ed
    refine ⟨sz 2, fun p np => ?_⟩
    have ndp : d ≠ p := ne_of_none ed np
    have rg2 : Rng d (upd H1 p (.lst [.ref d, .int 20])) p := ⟨ds, 20, upd_same, by decide, by rw [upd_ne ndp]; exact ed⟩
    generalize (upd H1 p (.lst [.ref d, .int 20])) = H2 at rg2 ⊢
    -- values
    refine ⟨_, rfl, p, d, 8, rfl, by decide, rg2, ?_⟩
    rintro x3 H3 ⟨m, rfl, m0, m1⟩ gw3 rg3
    refine ⟨m, rfl, by omega, by omega, fun D nD => lc_range (lo := 0) (n := m.toNat) (fun i H4 => ∃ us : List V, H4 D = some (.lst us) ∧ us.length = i ∧ (∀ y ∈ us, Scal y) ∧ Rng d H4 p)
      ⟨[], upd_same, rfl, fun _ z => (nomatch z), rg3.same (Same.new nD)⟩ (fun i H4 hi hP => ?_) (fun H4 hP => ?_)⟩
    · obtain ⟨us, eD, lu, su, rg4⟩ := hP
      have nDp := rg3.free nD
      refine ⟨rfl, ?_⟩
      refine ⟨_, rfl, p, d, rfl, rg4, ?_⟩
      rintro x H5 sx gw5 rg5
      refine ⟨us, gw5.keep eD nDp.1, small (m := 1000) (by omega) (by decide), us ++ [x], upd_same, by rw [List.length_append, lu]; rfl, fun y hy => ?_, rg5.upd nDp⟩
      rcases List.mem_append.mp hy with h | h
      · exact su y h
      · rw [List.mem_singleton.mp h]
        exact sx
    obtain ⟨us, eD, lu, su, rg4⟩ := hP
    have nDp := rg3.free nD
    -- rows
    refine ⟨_, rfl, p, d, 7, rfl, by decide, rg4, ?_⟩
    rintro x5 H5 ⟨m2, rfl, m20, m21⟩ gw5 rg5
    have eD5 := gw5.keep eD nDp.1
    refine ⟨m2, rfl, by omega, by omega, fun G nG => lc_range (lo := 0) (n := m2.toNat) (fun i H6 => ∃ rs : List V, H6 G = some (.lst rs) ∧ rs.length = i ∧ (∀ r ∈ rs, RowAt K 100 H6 r) ∧ H6 D = some (.lst us) ∧ Rng d H6 p)
      ⟨[], upd_same, rfl, fun _ z => (nomatch z), (Same.new nG) _ _ eD5, rg5.same (Same.new nG)⟩ (fun i H6 hi hP => ?_) (fun H6 hP => ?_)⟩
    · obtain ⟨rs, eG, lr, ar, eD6, rg6⟩ := hP
      have nGp := rg5.free nG
      have nGD : D ≠ G := ne_of_none eD5 nG
      refine ⟨rfl, ?_⟩
      refine ⟨_, rfl, _, rfl, p, d, 4, rfl, by decide, rg6, ?_⟩
      rintro x7 H7 ⟨z, rfl, z0, z1⟩ gw7 rg7
      have ez : z = ((z.toNat : Nat) : Int) := by omega
      refine ⟨p, d, z.toNat, congrArg (fun t => [V.ref p, V.int t]) ez, by omega, rg7, ?_⟩
      rintro x8 H8 ⟨q8, xs, rfl, e8, l8, s8⟩ gw8 rg8
      have t1 : Tk K H6 H8 := (Rng.tk rg6 gw7).trans (Rng.tk rg7 gw8)
      have eG8 := gw8.keep (gw7.keep eG nGp.1) nGp.1
      have t2 : Tk K H8 (upd H8 G (.lst (rs ++ [.ref q8]))) := Tk.put eG8
      refine ⟨rs, eG8, small (m := 1000) (by omega) (by decide), rs ++ [.ref q8], upd_same, by rw [List.length_append, lr]; rfl, fun r hr => ?_, by rw [upd_ne nGD]; exact gw8.keep (gw7.keep eD6 nDp.1) nDp.1, rg8.upd nGp⟩
      rcases List.mem_append.mp hr with h | h
      · exact RowAt.tk (t1.trans t2) (ar r h)
      · rw [List.mem_singleton.mp h]
        exact ⟨q8, xs, rfl, t2 _ _ (SqT.of e8), s8, by omega⟩
    obtain ⟨rs, eG, lr, ar, eD6, rg6⟩ := hP
    have nGp := rg5.free nG
    have nGD : D ≠ G := ne_of_none eD5 nG
    -- rows[1] = ..
    refine ⟨fun σ H7 => ∃ rs : List V, σ = [some (V.ref a), some (V.ref p), none, some (V.ref D), some (V.ref G), none, none, none, none, none] ∧ H7 G = some (.lst rs) ∧ (∀ r ∈ rs, RowAt K 500 H7 r) ∧ H7 D = some (.lst us) ∧ Rng d H7 p, ?_, ?_⟩
    · refine ⟨_, rfl, G, rs, rfl, .inl (SqL.of eG), _, _, rfl, rfl, _, rfl, ite2 (fun e => ?_) (fun e => ?_)⟩
      · have l2 : (1 : Int) < (rs.length : Int) := of_decide_eq_true e
        have l0 : 0 < rs.length := by omega
        obtain ⟨q0, xs0, e0, t0, s0, l0'⟩ := ar rs[0] (List.getElem_mem l0)
        refine ⟨_, rfl, G, rs, 0, rs[0], rfl, rfl, SqL.of eG, at_of (j := 0) rfl (List.getElem?_eq_getElem l0), _, rfl, _, rfl, p, d, 2, rfl, by decide, rg6, ?_⟩
        rintro x7 H7 ⟨z, rfl, z0, z1⟩ gw7 rg7
        have ez : z = ((z.toNat : Nat) : Int) := by omega
        refine ⟨p, d, z.toNat, congrArg (fun t => [V.ref p, V.int t]) ez, by omega, rg7, ?_⟩
        rintro x8 H8 ⟨q8, ys, rfl, e8, l8, s8⟩ gw8 rg8
        have t1 : Tk K H6 H8 := (Rng.tk rg6 gw7).trans (Rng.tk rg7 gw8)
        have eG8 := gw8.keep (gw7.keep eG nGp.1) nGp.1
        have eD8 := gw8.keep (gw7.keep eD6 nDp.1) nDp.1
        have mid : ∀ (v : V) (H9 : Hp), Same H8 H9 → RowAt K 500 H9 v → ∃ zs : List V, (upd H9 G (.lst (rs.set 1 v))) G = some (.lst zs) ∧ (∀ r ∈ zs, RowAt K 500 (upd H9 G (.lst (rs.set 1 v))) r) ∧
            (upd H9 G (.lst (rs.set 1 v))) D = some (.lst us) ∧ Rng d (upd H9 G (.lst (rs.set 1 v))) p := fun v H9 s9 hv => by
          have eG9 := s9 _ _ eG8
          have t9 : Tk K H9 (upd H9 G (.lst (rs.set 1 v))) := Tk.put eG9
          refine ⟨_, upd_same, fun r hr => ?_, by rw [upd_ne nGD]; exact s9 _ _ eD8, (rg8.same s9).upd nGp⟩
          rcases List.mem_or_eq_of_mem_set hr with h | h
          · exact RowAt.tk ((t1.trans (Tk.same s9)).trans t9) (ar r h).up
          · rw [h]
            exact RowAt.tk t9 hv
        refine ⟨q0, q8, xs0, ys, e0, rfl, t1 _ _ t0, SqT.of e8, Nat.le_trans (show xs0.length + ys.length ≤ 1000 by omega) (by decide), fun _ => ?_, fun _ _ => ?_, fun _ _ u nu => ?_⟩
        · obtain ⟨zs, h1, h2, h3, h4⟩ := mid (.ref q8) H8 (Same.refl _) ⟨q8, ys, rfl, SqT.of e8, s8, by omega⟩
          exact ⟨_, rfl, G, rs, 1, 1, rfl, rfl, eG8, ix1 (by omega), zs, rfl, h1, h2, h3, h4⟩
        · obtain ⟨zs, h1, h2, h3, h4⟩ := mid (.ref q0) H8 (Same.refl _) ⟨q0, xs0, rfl, t1 _ _ t0, s0, Nat.le_trans l0' (by decide)⟩
          exact ⟨_, rfl, G, rs, 1, 1, rfl, rfl, eG8, ix1 (by omega), zs, rfl, h1, h2, h3, h4⟩
        · have s9 : Same H8 (upd H8 u (.tup (xs0 ++ ys))) := Same.new nu
          obtain ⟨zs, h1, h2, h3, h4⟩ := mid (.ref u) _ s9 ⟨u, _, rfl, SqT.of upd_same, fun y hy => (List.mem_append.mp hy).elim (s0 y) (s8 y), by rw [List.length_append]; omega⟩
          exact ⟨_, rfl, G, rs, 1, 1, rfl, rfl, s9 _ _ eG8, ix1 (by omega), zs, rfl, h1, h2, h3, h4⟩
      · exact ⟨rs, rfl, eG, fun r hr => (ar r hr).up, eD6, rg6⟩
    rintro σ H7 ⟨rs, rfl, eG, ar, eD7, rg7⟩
    -- each two values
    refine ⟨_, rfl, D, rfl, ⟨_, SqL.of eD7⟩, for_list (K := K) (a := D) (xs := us) (fun i σ H8 => ∃ y5 y6 y7 : Option V, σ = [some (V.ref a), some (V.ref p), none, some (V.ref D), some (V.ref G), y5, y6, y7, none, none] ∧ Same H7 H8)
      ⟨none, none, none, rfl, Same.refl _⟩ (fun i σ H8 _ hP => ?_) (fun i x σ H8 hi hP => ?_) (fun σ H8 hP => ?_)⟩
    · obtain ⟨_, _, _, _, sm⟩ := hP
      exact SqL.of (sm _ _ eD7)
    · obtain ⟨y5, y6, y7, rfl, sm⟩ := hP
      have sx := su x (List.mem_of_getElem? hi)
      refine ⟨_, rfl, D, rfl, ⟨_, SqL.of (sm _ _ eD7)⟩, for_list (K := K) (a := D) (xs := us) (fun j σ H9 => ∃ y6 y7 : Option V, σ = [some (V.ref a), some (V.ref p), none, some (V.ref D), some (V.ref G), some x, y6, y7, none, none] ∧ Same H7 H9)
        ⟨y6, y7, rfl, sm⟩ (fun j σ H9 _ hP => ?_) (fun j y σ H9 hj hP => ?_) (fun σ H9 hP => ?_)⟩
      · obtain ⟨_, _, _, sm⟩ := hP
        exact SqL.of (sm _ _ eD7)
      · obtain ⟨y6, y7, rfl, sm9⟩ := hP
        have sy := su y (List.mem_of_getElem? hj)
        refine ⟨_, rfl, sz 1, fun t1 n1 => ⟨_, rfl, sz 1, fun t2 n2 => ⟨t1, t2, [x], [y], rfl, SqT.of ((Same.new n2) _ _ upd_same), SqT.of upd_same, by show 1 ≤ 1000; decide, one_all sx, one_all sy, ?_⟩⟩⟩
        have s2 := (sm9.trans (Same.new (o := .tup [x]) n1)).trans (Same.new (o := .tup [y]) n2)
        refine ⟨_, rfl, x, rfl, sx, ?_⟩
        intro k1 HA dk1 sA
        refine ⟨_, rfl, y, rfl, sy, ?_⟩
        intro k2 HB dk2 sB
        obtain ⟨ag, ok⟩ := Agr.one sx sy
        obtain ⟨dx, ex⟩ := vk_tup sx
        obtain ⟨dy, ey⟩ := vk_tup sy
        have cp : Cp K HB 1 k1 k2 (vkD x) (vkD y) := ⟨Dp.tk (Tk.same sB) _ _ (noL_vk x) dk1, dk2, lay_vk sx, lay_vk sy, deep_vk x, deep_vk y, ok, by decide⟩
        rw [ex, ey] at cp ag
        refine ⟨_, rfl, k1, k2, 1, dx, dy, _, rfl, cp, ag, ?_⟩
        rintro z HC rfl sC
        exact ⟨_, rfl, iteF ⟨_, _, rfl, ((s2.trans sA).trans sB).trans sC⟩⟩
      · obtain ⟨y6, y7, rfl, sm9⟩ := hP
        exact ⟨_, _, _, rfl, sm9⟩
    obtain ⟨y5, y6, y7, rfl, sm8⟩ := hP
    -- each two rows
    have eG8 := sm8 _ _ eG
    refine ⟨_, rfl, G, rfl, ⟨_, SqL.of eG8⟩, for_list (K := K) (a := G) (xs := rs) (fun i σ H9 => ∃ y5 y6 : Option V, σ = [some (V.ref a), some (V.ref p), none, some (V.ref D), some (V.ref G), y5, y6, y7, none, none] ∧ Same H8 H9)
      ⟨y5, y6, rfl, Same.refl _⟩ (fun i σ H9 _ hP => ?_) (fun i x σ H9 hi hP => ?_) (fun σ H9 hP => ?_)⟩
    · obtain ⟨_, _, _, sm⟩ := hP
      exact SqL.of (sm _ _ eG8)
    · obtain ⟨y5, y6, rfl, sm9⟩ := hP
      obtain ⟨ax, xs, rfl, tx, sx, lx⟩ := ar x (List.mem_of_getElem? hi)
      refine ⟨_, rfl, G, rfl, ⟨_, SqL.of (sm9 _ _ eG8)⟩, for_list (K := K) (a := G) (xs := rs) (fun j σ HA => ∃ y6 : Option V, σ = [some (V.ref a), some (V.ref p), none, some (V.ref D), some (V.ref G), some (.ref ax), y6, y7, none, none] ∧ Same H8 HA)
        ⟨y6, rfl, sm9⟩ (fun j σ HA _ hP => ?_) (fun j y σ HA hj hP => ?_) (fun σ HA hP => ?_)⟩
      · obtain ⟨_, _, sm⟩ := hP
        exact SqL.of (sm _ _ eG8)
      · obtain ⟨y6, rfl, smA⟩ := hP
        obtain ⟨ay, ys, rfl, ty, sy, ly⟩ := ar y (List.mem_of_getElem? hj)
        have kA : Tk K H7 HA := (Tk.same sm8).trans (Tk.same smA)
        refine ⟨_, rfl, ax, xs, rfl, kA _ _ tx, sx, by omega, ?_⟩
        intro k1 HB dk1 sB
        have kB := kA.trans (Tk.same sB)
        refine ⟨_, rfl, ay, ys, rfl, kB _ _ ty, sy, by omega, ?_⟩
        intro k2 HC dk2 sC
        have kC := kB.trans (Tk.same sC)
        refine ⟨_, rfl, _, rfl, ax, ay, xs, ys, rfl, kC _ _ tx, kC _ _ ty, by omega, sx, sy, ?_⟩
        obtain ⟨ag, ok⟩ := Agr.row sx sy
        refine ⟨k1, k2, 2, xs.map vkD, ys.map vkD, orderV xs ys, rfl, ⟨Dp.tk (Tk.same sC) _ _ (noL_rk xs) dk1, dk2, lay_rk sx, lay_rk sy, deep_rk xs, deep_rk ys, ok, by decide⟩, ag, ?_⟩
        rintro z HD rfl sD
        exact ⟨_, rfl, iteF ⟨_, rfl, ((smA.trans sB).trans sC).trans sD⟩⟩
      · obtain ⟨y6, rfl, smA⟩ := hP
        exact ⟨_, _, rfl, smA⟩
    obtain ⟨y5, y6, rfl, sm9⟩ := hP
    -- keys = []
    refine ⟨sz 0, fun L nL => ?_⟩
    have rg9 : Rng d H9 p := (rg7.same sm8).same sm9
    have nLp := rg9.free nL
    refine ⟨_, rfl, p, d, 9, rfl, by decide, rg9.same (Same.new nL), ?_⟩
    rintro xA HA ⟨m3, rfl, m30, m31⟩ gwA rgA
    refine ⟨m3, rfl, by omega, by omega, for_range (lo := 0) (n := m3.toNat) (fun i σ HB => ∃ (y2 y9 : Option V) (ks : List V), σ = [some (.ref a), some (.ref p), y2, some (.ref D), some (.ref G), y5, y6, y7, some (.ref L), y9] ∧
      HB L = some (.lst ks) ∧ ks.length = i ∧ (∀ x ∈ ks, ∃ (s : Int) (n : Str) (row : List V), KeyAt K HB x s n row) ∧ Rng d HB p)
      ⟨_, _, [], rfl, gwA.keep upd_same nLp.1, rfl, fun _ z => (nomatch z), rgA⟩ (fun i σ HB hi hP => ?_) (fun σ HB hP => ?_)⟩
    · obtain ⟨y2, y9, ks, rfl, eL, lk, kk, rgB⟩ := hP
      refine ⟨_, rfl, p, d, rfl, rgB, ?_⟩
      rintro x HC ⟨s, n, row, it⟩ gwC rgC
      have tC : Tk K HB HC := Rng.tk rgB gwC
      have eLC := gwC.keep eL nLp.1
      refine ⟨_, rfl, x, s, n, row, rfl, it, ?_⟩
      intro k1 HD dk1 sD
      refine ⟨_, rfl, x, s, n, row, rfl, ItemAt.tk (Tk.same sD) it, ?_⟩
      intro k2 HE dk2 sE
      obtain ⟨u1, u2, u3⟩ := key_dp (KeyAt.tk (Tk.same sE) dk1)
      obtain ⟨v1, _, _⟩ := key_dp dk2
      refine ⟨k1, k2, kPD s n row, rfl, u1, v1, u2, u3, ?_⟩
      rintro z HF rfl sF
      refine ⟨_, rfl, iteF ?_⟩
      have sCF := (sD.trans sE).trans sF
      have eLF := sCF _ _ eLC
      refine ⟨_, rfl, .inl ⟨rfl, _, SqL.of eLF⟩, _, rfl, x, s, n, row, rfl, ItemAt.tk (Tk.same sCF) it, ?_⟩
      intro k3 HH dk3 sH
      have eLH := sH _ _ eLF
      refine ⟨L, ks, k3, rfl, rfl, eLH, small (m := 1000) (by omega) (by decide), ?_⟩
      have tH : Tk K HC HH := (Tk.same sCF).trans (Tk.same sH)
      have tI : Tk K HH (upd HH L (.lst (ks ++ [k3]))) := Tk.put eLH
      refine ⟨_, _, ks ++ [k3], rfl, upd_same, by rw [List.length_append, lk]; rfl, fun y hy => ?_, ((rgC.same sCF).same sH).upd nLp⟩
      rcases List.mem_append.mp hy with h | h
      · obtain ⟨s', n', row', h'⟩ := kk y h
        exact ⟨s', n', row', KeyAt.tk ((tC.trans tH).trans tI) h'⟩
      · rw [List.mem_singleton.mp h]
        exact ⟨s, n, row, KeyAt.tk tI dk3⟩
    obtain ⟨y2, y9, ks, rfl, eL, lk, kk, rgB⟩ := hP
    -- each two keys
    refine ⟨_, rfl, L, rfl, ⟨_, SqL.of eL⟩, for_list (K := K) (a := L) (xs := ks) (fun i σ HC => ∃ y5 y6 : Option V, σ = [some (.ref a), some (.ref p), y2, some (.ref D), some (.ref G), y5, y6, y7, some (.ref L), y9] ∧ Same HB HC)
      ⟨y5, y6, rfl, Same.refl _⟩ (fun i σ HC _ hP => ?_) (fun i x σ HC hi hP => ?_) (fun σ HC hP => ?_)⟩
    · obtain ⟨_, _, _, sm⟩ := hP
      exact SqL.of (sm _ _ eL)
    · obtain ⟨y5, y6, rfl, smC⟩ := hP
      obtain ⟨s, n, row, kx⟩ := kk x (List.mem_of_getElem? hi)
      refine ⟨_, rfl, L, rfl, ⟨_, SqL.of (smC _ _ eL)⟩, for_list (K := K) (a := L) (xs := ks) (fun j σ HD => ∃ y6 : Option V, σ = [some (.ref a), some (.ref p), y2, some (.ref D), some (.ref G), some x, y6, y7, some (.ref L), y9] ∧ Same HB HD)
        ⟨y6, rfl, smC⟩ (fun j σ HD _ hP => ?_) (fun j y σ HD hj hP => ?_) (fun σ HD hP => ?_)⟩
      · obtain ⟨_, _, sm⟩ := hP
        exact SqL.of (sm _ _ eL)
      · obtain ⟨y6, rfl, smD⟩ := hP
        obtain ⟨s', n', row', ky⟩ := kk y (List.mem_of_getElem? hj)
        have kD := Tk.same (K := K) smD
        refine ⟨_, rfl, x, s, n, row, rfl, KeyAt.tk kD kx, ?_⟩
        intro k1 HE dk1 sE
        have kE := kD.trans (Tk.same sE)
        refine ⟨_, rfl, y, s', n', row', rfl, KeyAt.tk kE ky, ?_⟩
        intro k2 HF dk2 sF
        have kF := kE.trans (Tk.same sF)
        refine ⟨_, rfl, _, rfl, x, y, s, s', n, n', row, row', rfl, KeyAt.tk kF kx, KeyAt.tk kF ky, ?_⟩
        rintro o HG rfl sG
        obtain ⟨_, _, _, _, _, pn, sr, _⟩ := kx
        obtain ⟨_, _, _, _, _, pn', sr', _⟩ := ky
        obtain ⟨ag, ok⟩ := Agr.key (s := s) (s' := s') (n := n) (n' := n') sr sr'
        refine ⟨k1, k2, 3, [.int s, .str n, rkD row], [.int s', .str n', rkD row'], _, rfl, ⟨Dp.tk ((Tk.same sF).trans (Tk.same sG)) _ _ (noL_k s n row) dk1, Dp.tk (Tk.same sG) _ _ (noL_k s' n' row') dk2, lay_k pn sr, lay_k pn' sr', deep_k s n row, deep_k s' n' row', ok, by decide⟩, ag, ?_⟩
        rintro z HH rfl sH
        exact ⟨_, rfl, iteF ⟨_, rfl, (((smD.trans sE).trans sF).trans sG).trans sH⟩⟩
      · obtain ⟨y6, rfl, smD⟩ := hP
        exact ⟨_, _, rfl, smD⟩
    obtain ⟨y5, y6, rfl, smC⟩ := hP
    exact q _
end
end K1
namespace K1
open PySem PySem.Spec PyProof.Rows L2 Ow Tlz
theorem kn_of {P : Program} {w : World} {K : PySem.W.Frag} {mg : Str → Option Value} {base : Heap} {k : Nat} {x qual : Str} {st : Stmt} {f : Addr} {fd : FuncData} {ps : List Str} {sp : Sp}
    (F : Fun K x qual st f fd) (g : mg x = some (.ref f)) (b : Binds K fd ps []) (ok : FnOk P w K mg base CX0 k f fd ps sp) : Kn P w K mg base k x ps sp := ⟨⟨f, fd, ok, g, F.kp, b⟩⟩
theorem all_mk {l : PySem.W.OpenLaw} {w : World} {K : PySem.W.Frag} {h : Heap} {mg : Str → Option Value} {fa : Addr} (X : K.In h) (G : h.Ns mainGlobals mg) (hfa : mg "law" = some (.ref fa))
    {f1 : Addr} {od1 an1 : Option Addr} {sl1 : Array (Option Value)} {oc1 kV1 dc1 pm1 cd1 ct1 : Value}
    {f2 : Addr} {od2 an2 : Option Addr} {sl2 : Array (Option Value)} {oc2 kV2 dc2 pm2 cd2 ct2 : Value}
    {f3 : Addr} {od3 an3 : Option Addr} {sl3 : Array (Option Value)} {oc3 kV3 dc3 pm3 cd3 ct3 : Value}
    {f4 : Addr} {od4 an4 : Option Addr} {sl4 : Array (Option Value)} {oc4 kV4 dc4 pm4 cd4 ct4 : Value}
    {f5 : Addr} {od5 an5 : Option Addr} {sl5 : Array (Option Value)} {oc5 kV5 dc5 pm5 cd5 ct5 : Value}
    {f6 : Addr} {od6 an6 : Option Addr} {sl6 : Array (Option Value)} {oc6 kV6 dc6 pm6 cd6 ct6 : Value}
    {f7 : Addr} {od7 an7 : Option Addr} {sl7 : Array (Option Value)} {oc7 kV7 dc7 pm7 cd7 ct7 : Value}
    {f8 : Addr} {od8 an8 : Option Addr} {sl8 : Array (Option Value)} {oc8 kV8 dc8 pm8 cd8 ct8 : Value}
    {f9 : Addr} {od9 an9 : Option Addr} {sl9 : Array (Option Value)} {oc9 kV9 dc9 pm9 cd9 ct9 : Value}
    {f10 : Addr} {od10 an10 : Option Addr} {sl10 : Array (Option Value)} {oc10 kV10 dc10 pm10 cd10 ct10 : Value}
    {f11 : Addr} {od11 an11 : Option Addr} {sl11 : Array (Option Value)} {oc11 kV11 dc11 pm11 cd11 ct11 : Value}
    {f12 : Addr} {od12 an12 : Option Addr} {sl12 : Array (Option Value)} {oc12 kV12 dc12 pm12 cd12 ct12 : Value}
    {f13 : Addr} {od13 an13 : Option Addr} {sl13 : Array (Option Value)} {oc13 kV13 dc13 pm13 cd13 ct13 : Value}
    {f14 : Addr} {od14 an14 : Option Addr} {sl14 : Array (Option Value)} {oc14 kV14 dc14 pm14 cd14 ct14 : Value}
    {f15 : Addr} {od15 an15 : Option Addr} {sl15 : Array (Option Value)} {oc15 kV15 dc15 pm15 cd15 ct15 : Value}
    {f16 : Addr} {od16 an16 : Option Addr} {sl16 : Array (Option Value)} {oc16 kV16 dc16 pm16 cd16 ct16 : Value}
    {f17 : Addr} {od17 an17 : Option Addr} {sl17 : Array (Option Value)} {oc17 kV17 dc17 pm17 cd17 ct17 : Value}
    {f18 : Addr} {od18 an18 : Option Addr} {sl18 : Array (Option Value)} {oc18 kV18 dc18 pm18 cd18 ct18 : Value}
    {f19 : Addr} {od19 an19 : Option Addr} {sl19 : Array (Option Value)} {oc19 kV19 dc19 pm19 cd19 ct19 : Value}
    {f20 : Addr} {od20 an20 : Option Addr} {sl20 : Array (Option Value)} {oc20 kV20 dc20 pm20 cd20 ct20 : Value}
    {f21 : Addr} {od21 an21 : Option Addr} {sl21 : Array (Option Value)} {oc21 kV21 dc21 pm21 cd21 ct21 : Value}
    (a1 : PySem.W.nsIn K mainGlobals "value_key" = some (some (.ref f1)))
    (l1 : K.lookup f1 = some ⟨oc1, od1, .func (PySem.W.fnOf "value_key" "value_key" (defArgs svalue_key) (defBody svalue_key) (defScope svalue_key) .none kV1 dc1 pm1 an1 cd1 ct1), sl1⟩) (c1 : PySem.W.codeIn K cd1 "value_key" = true) (k1 : PySem.W.keepIn K (.ref f1) = true)
    (a2 : PySem.W.nsIn K mainGlobals "row_key" = some (some (.ref f2)))
    (l2 : K.lookup f2 = some ⟨oc2, od2, .func (PySem.W.fnOf "row_key" "row_key" (defArgs srow_key) (defBody srow_key) (defScope srow_key) .none kV2 dc2 pm2 an2 cd2 ct2), sl2⟩) (c2 : PySem.W.codeIn K cd2 "row_key" = true) (k2 : PySem.W.keepIn K (.ref f2) = true)
    (a3 : PySem.W.nsIn K mainGlobals "key_of" = some (some (.ref f3)))
    (l3 : K.lookup f3 = some ⟨oc3, od3, .func (PySem.W.fnOf "key_of" "key_of" (defArgs skey_of) (defBody skey_of) (defScope skey_of) .none kV3 dc3 pm3 an3 cd3 ct3), sl3⟩) (c3 : PySem.W.codeIn K cd3 "key_of" = true) (k3 : PySem.W.keepIn K (.ref f3) = true)
    (a4 : PySem.W.nsIn K mainGlobals "key_order" = some (some (.ref f4)))
    (l4 : K.lookup f4 = some ⟨oc4, od4, .func (PySem.W.fnOf "key_order" "key_order" (defArgs skey_order) (defBody skey_order) (defScope skey_order) .none kV4 dc4 pm4 an4 cd4 ct4), sl4⟩) (c4 : PySem.W.codeIn K cd4 "key_order" = true) (k4 : PySem.W.keepIn K (.ref f4) = true)
    (a5 : PySem.W.nsIn K mainGlobals "_law_mix" = some (some (.ref f5)))
    (l5 : K.lookup f5 = some ⟨oc5, od5, .func (PySem.W.fnOf "_law_mix" "_law_mix" (defArgs s_law_mix) (defBody s_law_mix) (defScope s_law_mix) .none kV5 dc5 pm5 an5 cd5 ct5), sl5⟩) (c5 : PySem.W.codeIn K cd5 "_law_mix" = true) (k5 : PySem.W.keepIn K (.ref f5) = true)
    (a6 : PySem.W.nsIn K mainGlobals "_law_draws" = some (some (.ref f6)))
    (l6 : K.lookup f6 = some ⟨oc6, od6, .func (PySem.W.fnOf "_law_draws" "_law_draws" (defArgs s_law_draws) (defBody s_law_draws) (defScope s_law_draws) .none kV6 dc6 pm6 an6 cd6 ct6), sl6⟩) (c6 : PySem.W.codeIn K cd6 "_law_draws" = true) (k6 : PySem.W.keepIn K (.ref f6) = true)
    (a7 : PySem.W.nsIn K mainGlobals "_law_at" = some (some (.ref f7)))
    (l7 : K.lookup f7 = some ⟨oc7, od7, .func (PySem.W.fnOf "_law_at" "_law_at" (defArgs s_law_at) (defBody s_law_at) (defScope s_law_at) .none kV7 dc7 pm7 an7 cd7 ct7), sl7⟩) (c7 : PySem.W.codeIn K cd7 "_law_at" = true) (k7 : PySem.W.keepIn K (.ref f7) = true)
    (a8 : PySem.W.nsIn K mainGlobals "_law_is_integer" = some (some (.ref f8)))
    (l8 : K.lookup f8 = some ⟨oc8, od8, .func (PySem.W.fnOf "_law_is_integer" "_law_is_integer" (defArgs s_law_is_integer) (defBody s_law_is_integer) (defScope s_law_is_integer) .none kV8 dc8 pm8 an8 cd8 ct8), sl8⟩) (c8 : PySem.W.codeIn K cd8 "_law_is_integer" = true) (k8 : PySem.W.keepIn K (.ref f8) = true)
    (a9 : PySem.W.nsIn K mainGlobals "_law_same" = some (some (.ref f9)))
    (l9 : K.lookup f9 = some ⟨oc9, od9, .func (PySem.W.fnOf "_law_same" "_law_same" (defArgs s_law_same) (defBody s_law_same) (defScope s_law_same) .none kV9 dc9 pm9 an9 cd9 ct9), sl9⟩) (c9 : PySem.W.codeIn K cd9 "_law_same" = true) (k9 : PySem.W.keepIn K (.ref f9) = true)
    (a10 : PySem.W.nsIn K mainGlobals "_law_next" = some (some (.ref f10)))
    (l10 : K.lookup f10 = some ⟨oc10, od10, .func (PySem.W.fnOf "_law_next" "_law_next" (defArgs s_law_next) (defBody s_law_next) (defScope s_law_next) .none kV10 dc10 pm10 an10 cd10 ct10), sl10⟩) (c10 : PySem.W.codeIn K cd10 "_law_next" = true) (k10 : PySem.W.keepIn K (.ref f10) = true)
    (a11 : PySem.W.nsIn K mainGlobals "_law_text" = some (some (.ref f11)))
    (l11 : K.lookup f11 = some ⟨oc11, od11, .func (PySem.W.fnOf "_law_text" "_law_text" (defArgs s_law_text) (defBody s_law_text) (defScope s_law_text) .none kV11 dc11 pm11 an11 cd11 ct11), sl11⟩) (c11 : PySem.W.codeIn K cd11 "_law_text" = true) (k11 : PySem.W.keepIn K (.ref f11) = true)
    (a12 : PySem.W.nsIn K mainGlobals "_law_value" = some (some (.ref f12)))
    (l12 : K.lookup f12 = some ⟨oc12, od12, .func (PySem.W.fnOf "_law_value" "_law_value" (defArgs s_law_value) (defBody s_law_value) (defScope s_law_value) .none kV12 dc12 pm12 an12 cd12 ct12), sl12⟩) (c12 : PySem.W.codeIn K cd12 "_law_value" = true) (k12 : PySem.W.keepIn K (.ref f12) = true)
    (a13 : PySem.W.nsIn K mainGlobals "_law_row" = some (some (.ref f13)))
    (l13 : K.lookup f13 = some ⟨oc13, od13, .func (PySem.W.fnOf "_law_row" "_law_row" (defArgs s_law_row) (defBody s_law_row) (defScope s_law_row) .none kV13 dc13 pm13 an13 cd13 ct13), sl13⟩) (c13 : PySem.W.codeIn K cd13 "_law_row" = true) (k13 : PySem.W.keepIn K (.ref f13) = true)
    (a14 : PySem.W.nsIn K mainGlobals "_law_name" = some (some (.ref f14)))
    (l14 : K.lookup f14 = some ⟨oc14, od14, .func (PySem.W.fnOf "_law_name" "_law_name" (defArgs s_law_name) (defBody s_law_name) (defScope s_law_name) .none kV14 dc14 pm14 an14 cd14 ct14), sl14⟩) (c14 : PySem.W.codeIn K cd14 "_law_name" = true) (k14 : PySem.W.keepIn K (.ref f14) = true)
    (a15 : PySem.W.nsIn K mainGlobals "_law_first" = some (some (.ref f15)))
    (l15 : K.lookup f15 = some ⟨oc15, od15, .func (PySem.W.fnOf "_law_first" "_law_first" (defArgs s_law_first) (defBody s_law_first) (defScope s_law_first) .none kV15 dc15 pm15 an15 cd15 ct15), sl15⟩) (c15 : PySem.W.codeIn K cd15 "_law_first" = true) (k15 : PySem.W.keepIn K (.ref f15) = true)
    (a16 : PySem.W.nsIn K mainGlobals "_law_order" = some (some (.ref f16)))
    (l16 : K.lookup f16 = some ⟨oc16, od16, .func (PySem.W.fnOf "_law_order" "_law_order" (defArgs s_law_order) (defBody s_law_order) (defScope s_law_order) .none kV16 dc16 pm16 an16 cd16 ct16), sl16⟩) (c16 : PySem.W.codeIn K cd16 "_law_order" = true) (k16 : PySem.W.keepIn K (.ref f16) = true)
    (a17 : PySem.W.nsIn K mainGlobals "_law_key" = some (some (.ref f17)))
    (l17 : K.lookup f17 = some ⟨oc17, od17, .func (PySem.W.fnOf "_law_key" "_law_key" (defArgs s_law_key) (defBody s_law_key) (defScope s_law_key) .none kV17 dc17 pm17 an17 cd17 ct17), sl17⟩) (c17 : PySem.W.codeIn K cd17 "_law_key" = true) (k17 : PySem.W.keepIn K (.ref f17) = true)
    (a18 : PySem.W.nsIn K mainGlobals "_law_key_order" = some (some (.ref f18)))
    (l18 : K.lookup f18 = some ⟨oc18, od18, .func (PySem.W.fnOf "_law_key_order" "_law_key_order" (defArgs s_law_key_order) (defBody s_law_key_order) (defScope s_law_key_order) .none kV18 dc18 pm18 an18 cd18 ct18), sl18⟩) (c18 : PySem.W.codeIn K cd18 "_law_key_order" = true) (k18 : PySem.W.keepIn K (.ref f18) = true)
    (a19 : PySem.W.nsIn K mainGlobals "_law_item" = some (some (.ref f19)))
    (l19 : K.lookup f19 = some ⟨oc19, od19, .func (PySem.W.fnOf "_law_item" "_law_item" (defArgs s_law_item) (defBody s_law_item) (defScope s_law_item) .none kV19 dc19 pm19 an19 cd19 ct19), sl19⟩) (c19 : PySem.W.codeIn K cd19 "_law_item" = true) (k19 : PySem.W.keepIn K (.ref f19) = true)
    (a20 : PySem.W.nsIn K mainGlobals "_law_agrees" = some (some (.ref f20)))
    (l20 : K.lookup f20 = some ⟨oc20, od20, .func (PySem.W.fnOf "_law_agrees" "_law_agrees" (defArgs s_law_agrees) (defBody s_law_agrees) (defScope s_law_agrees) .none kV20 dc20 pm20 an20 cd20 ct20), sl20⟩) (c20 : PySem.W.codeIn K cd20 "_law_agrees" = true) (k20 : PySem.W.keepIn K (.ref f20) = true)
    (a21 : PySem.W.nsIn K mainGlobals "law" = some (some (.ref f21)))
    (l21 : K.lookup f21 = some ⟨oc21, od21, .func (PySem.W.fnOf "law" "law" (defArgs slaw) (defBody slaw) (defScope slaw) .none kV21 dc21 pm21 an21 cd21 ct21), sl21⟩) (c21 : PySem.W.codeIn K cd21 "law" = true) (k21 : PySem.W.keepIn K (.ref f21) = true)
    {sA : Addr} {t0 t1 t2 t3 : Tok} {sn : Nat} {ss : Array (Option Value)} (aS : PySem.W.nsIn K mainGlobals "SORTS" = some (some (.ref sA)))
    (lS : K.lookup sA = some ⟨.type "tuple", none, .seq #[.str "relation" t0, .str "fact" t1, .str "structure" t2, .str "layout" t3] sn, ss⟩)
    (z1 : PySem.W.nsIn K mainGlobals "range" = some none) (z2 : PySem.W.nsIn K mainGlobals "len" = some none) (z3 : PySem.W.nsIn K mainGlobals "int" = some none) (z4 : PySem.W.nsIn K mainGlobals "str" = some none) (z5 : PySem.W.nsIn K mainGlobals "bool" = some none) (z6 : PySem.W.nsIn K mainGlobals "list" = some none) (z7 : PySem.W.nsIn K mainGlobals "tuple" = some none) (z8 : PySem.W.nsIn K mainGlobals "isinstance" = some none) (z9 : PySem.W.nsIn K mainGlobals "min" = some none) :
    ∃ fd : FuncData, (∀ (s : Shared) (v : Value), BindsTo s fd ⟨[v], []⟩ [("script", v)]) ∧ ∀ base : Heap, K.In base → base.Ns mainGlobals mg → FnOk l.prog w K mg base CX0 8 fa fd ["script"] (spLaw K) := by
  have e := hfa.symm.trans (PySem.W.mg_of X G a21)
  cases e
  have F1 := fun_mk (st := svalue_key) l1 c1 k1
  have b1 := F1.binds (ps := ["value"]) fun _ _ _ _ _ _ us hl => match us, hl with | [_], _ => rfl
  have g1 := PySem.W.mg_of X G a1
  have F2 := fun_mk (st := srow_key) l2 c2 k2
  have b2 := F2.binds (ps := ["row"]) fun _ _ _ _ _ _ us hl => match us, hl with | [_], _ => rfl
  have g2 := PySem.W.mg_of X G a2
  have F3 := fun_mk (st := skey_of) l3 c3 k3
  have b3 := F3.binds (ps := ["item"]) fun _ _ _ _ _ _ us hl => match us, hl with | [_], _ => rfl
  have g3 := PySem.W.mg_of X G a3
  have F4 := fun_mk (st := skey_order) l4 c4 k4
  have b4 := F4.binds (ps := ["key"]) fun _ _ _ _ _ _ us hl => match us, hl with | [_], _ => rfl
  have g4 := PySem.W.mg_of X G a4
  have F5 := fun_mk (st := s_law_mix) l5 c5 k5
  have b5 := F5.binds (ps := ["cell", "k"]) fun _ _ _ _ _ _ us hl => match us, hl with | [_, _], _ => rfl
  have g5 := PySem.W.mg_of X G a5
  have F6 := fun_mk (st := s_law_draws) l6 c6 k6
  have b6 := F6.binds (ps := ["script"]) fun _ _ _ _ _ _ us hl => match us, hl with | [_], _ => rfl
  have g6 := PySem.W.mg_of X G a6
  have F7 := fun_mk (st := s_law_at) l7 c7 k7
  have b7 := F7.binds (ps := ["draws", "index"]) fun _ _ _ _ _ _ us hl => match us, hl with | [_, _], _ => rfl
  have g7 := PySem.W.mg_of X G a7
  have F8 := fun_mk (st := s_law_is_integer) l8 c8 k8
  have b8 := F8.binds (ps := ["actual"]) fun _ _ _ _ _ _ us hl => match us, hl with | [_], _ => rfl
  have g8 := PySem.W.mg_of X G a8
  have F9 := fun_mk (st := s_law_same) l9 c9 k9
  have b9 := F9.binds (ps := ["actual", "expected"]) fun _ _ _ _ _ _ us hl => match us, hl with | [_, _], _ => rfl
  have g9 := PySem.W.mg_of X G a9
  have F10 := fun_mk (st := s_law_next) l10 c10 k10
  have b10 := F10.binds (ps := ["state", "limit"]) fun _ _ _ _ _ _ us hl => match us, hl with | [_, _], _ => rfl
  have g10 := PySem.W.mg_of X G a10
  have F11 := fun_mk (st := s_law_text) l11 c11 k11
  have b11 := F11.binds (ps := ["state", "most"]) fun _ _ _ _ _ _ us hl => match us, hl with | [_, _], _ => rfl
  have g11 := PySem.W.mg_of X G a11
  have F12 := fun_mk (st := s_law_value) l12 c12 k12
  have b12 := F12.binds (ps := ["state"]) fun _ _ _ _ _ _ us hl => match us, hl with | [_], _ => rfl
  have g12 := PySem.W.mg_of X G a12
  have F13 := fun_mk (st := s_law_row) l13 c13 k13
  have b13 := F13.binds (ps := ["state", "width"]) fun _ _ _ _ _ _ us hl => match us, hl with | [_, _], _ => rfl
  have g13 := PySem.W.mg_of X G a13
  have F14 := fun_mk (st := s_law_name) l14 c14 k14
  have b14 := F14.binds (ps := ["state"]) fun _ _ _ _ _ _ us hl => match us, hl with | [_], _ => rfl
  have g14 := PySem.W.mg_of X G a14
  have F15 := fun_mk (st := s_law_first) l15 c15 k15
  have b15 := F15.binds (ps := ["one", "other"]) fun _ _ _ _ _ _ us hl => match us, hl with | [_, _], _ => rfl
  have g15 := PySem.W.mg_of X G a15
  have F16 := fun_mk (st := s_law_order) l16 c16 k16
  have b16 := F16.binds (ps := ["first", "second"]) fun _ _ _ _ _ _ us hl => match us, hl with | [_, _], _ => rfl
  have g16 := PySem.W.mg_of X G a16
  have F17 := fun_mk (st := s_law_key) l17 c17 k17
  have b17 := F17.binds (ps := ["item"]) fun _ _ _ _ _ _ us hl => match us, hl with | [_], _ => rfl
  have g17 := PySem.W.mg_of X G a17
  have F18 := fun_mk (st := s_law_key_order) l18 c18 k18
  have b18 := F18.binds (ps := ["first", "second"]) fun _ _ _ _ _ _ us hl => match us, hl with | [_, _], _ => rfl
  have g18 := PySem.W.mg_of X G a18
  have F19 := fun_mk (st := s_law_item) l19 c19 k19
  have b19 := F19.binds (ps := ["state"]) fun _ _ _ _ _ _ us hl => match us, hl with | [_], _ => rfl
  have g19 := PySem.W.mg_of X G a19
  have F20 := fun_mk (st := s_law_agrees) l20 c20 k20
  have b20 := F20.binds (ps := ["left", "right", "order"]) fun _ _ _ _ _ _ us hl => match us, hl with | [_, _, _], _ => rfl
  have g20 := PySem.W.mg_of X G a20
  have F21 := fun_mk (st := slaw) l21 c21 k21
  have T : Bl mg := ⟨PySem.W.mg_none_of X G z1, PySem.W.mg_none_of X G z2, PySem.W.mg_none_of X G z3, PySem.W.mg_none_of X G z4, PySem.W.mg_none_of X G z5, PySem.W.mg_none_of X G z6, PySem.W.mg_none_of X G z7, PySem.W.mg_none_of X G z8, PySem.W.mg_none_of X G z9⟩
  have S : Srt K mg := ⟨⟨sA, _, _, _, PySem.W.mg_of X G aS, lS, rfl, rfl, rfl, sz 4, .cons ⟨_, rfl⟩ (.cons ⟨_, rfl⟩ (.cons ⟨_, rfl⟩ (.cons ⟨_, rfl⟩ .nil)))⟩⟩
  refine ⟨PySem.W.fnOf "law" "law" (defArgs slaw) (defBody slaw) (defScope slaw) .none kV21 dc21 pm21 an21 cd21 ct21, fun s v => .of_eq rfl, fun base _ _ => ?_⟩
  have D_law_mix : Kn l.prog w K mg base 1 "_law_mix" ["cell", "k"] (spMix) := kn_of F5 g5 b5 (ok_mix F5 T)
  have D_law_draws : Kn l.prog w K mg base 2 "_law_draws" ["script"] (spDraws K) := kn_of F6 g6 b6 (ok_draws F6 T D_law_mix)
  have D_law_at : Kn l.prog w K mg base 2 "_law_at" ["draws", "index"] (spAt K) := kn_of F7 g7 b7 (ok_at F7 T D_law_mix)
  have D_law_next : Kn l.prog w K mg base 3 "_law_next" ["state", "limit"] (spNext) := kn_of F10 g10 b10 (ok_next F10 T D_law_at)
  have D_law_text : Kn l.prog w K mg base 4 "_law_text" ["state", "most"] (spText) := kn_of F11 g11 b11 (ok_text F11 T D_law_next)
  have D_law_value : Kn l.prog w K mg base 5 "_law_value" ["state"] (spValue) := kn_of F12 g12 b12 (ok_value F12 T D_law_next D_law_text)
  have D_law_row : Kn l.prog w K mg base 6 "_law_row" ["state", "width"] (spRow) := kn_of F13 g13 b13 (ok_row F13 T D_law_value)
  have D_law_name : Kn l.prog w K mg base 4 "_law_name" ["state"] (spName) := kn_of F14 g14 b14 (ok_name F14 D_law_next)
  have D_law_first : Kn l.prog w K mg base 1 "_law_first" ["one", "other"] (spFirst) := kn_of F15 g15 b15 (ok_first F15 T)
  have D_law_order : Kn l.prog w K mg base 2 "_law_order" ["first", "second"] (spOrder K) := kn_of F16 g16 b16 (ok_order F16 T D_law_first)
  have D_law_is_integer : Kn l.prog w K mg base 1 "_law_is_integer" ["actual"] (spIsInt) := kn_of F8 g8 b8 (ok_isint F8 T)
  have Dvalue_key : Kn l.prog w K mg base 1 "value_key" ["value"] (spVKey K) := kn_of F1 g1 b1 (ok_vkey F1 T)
  have Drow_key : Kn l.prog w K mg base 2 "row_key" ["row"] (spRKey K) := kn_of F2 g2 b2 (ok_rkey F2 T Dvalue_key)
  have Dkey_order : Kn l.prog w K mg base 3 "key_order" ["key"] (spKOrd K) := kn_of F4 g4 b4 (ok_kord F4 Drow_key)
  have Dkey_of : Kn l.prog w K mg base 1 "key_of" ["item"] (spLKey K) := kn_of F3 g3 b3 (ok_keyof F3 S)
  have D_law_key : Kn l.prog w K mg base 1 "_law_key" ["item"] (spLKey K) := kn_of F17 g17 b17 (ok_lkey F17)
  have D_law_key_order : Kn l.prog w K mg base 3 "_law_key_order" ["first", "second"] (spLOrd K) := kn_of F18 g18 b18 (ok_lord F18 T D_law_order)
  have D_law_item : Kn l.prog w K mg base 7 "_law_item" ["state"] (spItem K) := kn_of F19 g19 b19 (ok_item F19 T D_law_next D_law_name D_law_row)
  have D_law_agrees : Kn l.prog w K mg base 1 "_law_agrees" ["left", "right", "order"] (spAgrees K) := kn_of F20 g20 b20 (ok_agrees F20 T)
  have S0 : Kn l.prog w K mg base 2 "_law_same" ["actual", "expected"] (spSame2 K 0) := kn_of F9 g9 b9 (ok_same0 F9 T D_law_is_integer)
  have S1 : Kn l.prog w K mg base 3 "_law_same" ["actual", "expected"] (spSame2 K 1) := kn_of F9 g9 b9 (ok_sameS F9 T (n := 0) D_law_is_integer S0)
  have S2 : Kn l.prog w K mg base 4 "_law_same" ["actual", "expected"] (spSame2 K 2) := kn_of F9 g9 b9 (ok_sameS F9 T (n := 1) D_law_is_integer S1)
  exact ok_law F21 T D_law_draws D_law_next D_law_value D_law_row D_law_order D_law_agrees Dvalue_key Drow_key D_law_item S2 Dkey_of D_law_key Dkey_order D_law_key_order
end K1
open PySem PySem.W PyProof.Rows
set_option maxHeartbeats 0 in
theorem PySem.Challenge.cw_turnshelves_k01_order_of_values_holds : PySem.Challenge.rw_turnshelves_k01_order_of_values.Holds := by
  w_on; o_law; k_head; (case hw => w_witness2)
  k_fill
  refine L2.walk_of (l := PySem.Challenge.rw_turnshelves_k01_order_of_values) (n := 63) (k := 8) (x := "script") (CX := fun _ => L2.CX0) (sp := fun w => K1.spLaw _) rfl (by decide) rfl ⟨rfl, by decide, by decide⟩ (fun w h Y => PySem.W.kIn_of Y) ?F (fun _ _ a ns hl _ hS => ⟨a, ns, rfl, hS, hl, fun _ => rfl⟩) (fun _ _ _ _ _ h => h)
  case F =>
    intro w mg fa h KX G hmg
    refine' K1.all_mk KX G hmg ?a1 ?l1 ?c1 ?k1 ?a2 ?l2 ?c2 ?k2 ?a3 ?l3 ?c3 ?k3 ?a4 ?l4 ?c4 ?k4 ?a5 ?l5 ?c5 ?k5 ?a6 ?l6 ?c6 ?k6 ?a7 ?l7 ?c7 ?k7 ?a8 ?l8 ?c8 ?k8 ?a9 ?l9 ?c9 ?k9 ?a10 ?l10 ?c10 ?k10 ?a11 ?l11 ?c11 ?k11 ?a12 ?l12 ?c12 ?k12 ?a13 ?l13 ?c13 ?k13 ?a14 ?l14 ?c14 ?k14 ?a15 ?l15 ?c15 ?k15 ?a16 ?l16 ?c16 ?k16 ?a17 ?l17 ?c17 ?k17 ?a18 ?l18 ?c18 ?k18 ?a19 ?l19 ?c19 ?k19 ?a20 ?l20 ?c20 ?k20 ?a21 ?l21 ?c21 ?k21 ?aS ?lS ?z1 ?z2 ?z3 ?z4 ?z5 ?z6 ?z7 ?z8 ?z9
    (case a1 => k_is); (case l1 => k_is); (case c1 => k_is); (case k1 => k_is); (case a2 => k_is); (case l2 => k_is); (case c2 => k_is); (case k2 => k_is); (case a3 => k_is); (case l3 => k_is); (case c3 => k_is); (case k3 => k_is); (case a4 => k_is); (case l4 => k_is); (case c4 => k_is); (case k4 => k_is); (case a5 => k_is); (case l5 => k_is); (case c5 => k_is); (case k5 => k_is); (case a6 => k_is); (case l6 => k_is); (case c6 => k_is); (case k6 => k_is); (case a7 => k_is); (case l7 => k_is); (case c7 => k_is); (case k7 => k_is); (case a8 => k_is); (case l8 => k_is); (case c8 => k_is); (case k8 => k_is); (case a9 => k_is); (case l9 => k_is); (case c9 => k_is); (case k9 => k_is); (case a10 => k_is); (case l10 => k_is); (case c10 => k_is); (case k10 => k_is); (case a11 => k_is); (case l11 => k_is); (case c11 => k_is); (case k11 => k_is); (case a12 => k_is); (case l12 => k_is); (case c12 => k_is); (case k12 => k_is); (case a13 => k_is); (case l13 => k_is); (case c13 => k_is); (case k13 => k_is); (case a14 => k_is); (case l14 => k_is); (case c14 => k_is); (case k14 => k_is); (case a15 => k_is); (case l15 => k_is); (case c15 => k_is); (case k15 => k_is); (case a16 => k_is); (case l16 => k_is); (case c16 => k_is); (case k16 => k_is); (case a17 => k_is); (case l17 => k_is); (case c17 => k_is); (case k17 => k_is); (case a18 => k_is); (case l18 => k_is); (case c18 => k_is); (case k18 => k_is); (case a19 => k_is); (case l19 => k_is); (case c19 => k_is); (case k19 => k_is); (case a20 => k_is); (case l20 => k_is); (case c20 => k_is); (case k20 => k_is); (case a21 => k_is); (case l21 => k_is); (case c21 => k_is); (case k21 => k_is); (case aS => k_is); (case lS => k_is); (case z1 => k_is); (case z2 => k_is); (case z3 => k_is); (case z4 => k_is); (case z5 => k_is); (case z6 => k_is); (case z7 => k_is); (case z8 => k_is); (case z9 => k_is)
