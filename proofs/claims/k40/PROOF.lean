import PyProof.Rows.All
import Wide.All
import OpenK.AllK
import Wide.FinOn
import PyProof.EqAt
import PyProof.EqKinds
import PyProof.TupleCall
import HandS.ForMost
import HandS.IsInst
import HandS.TupAny
import HandS.Strs
import HandS.Replace
import HandS.SetKeys
import HandS.Style
import HandS.Deep
import HandS.TupLen
import HandS.More
import HandS.Walk
import HandS.Defaults
import HandS.Star
import HandS.DictComp
import HandS.TryOnly
import PyProof.ZipIter
import KE.KItemsList
import HandS.Zip
import HandS.Wide
import HandS.WideBits
import HandS.RevRange
import HandS.ForExc
import HandS.ForDict
import HandS.Small
import HandS.ExcIs
import HandS.ExcOwn
import HandS.DictTup
import KE.KDictKeyed
import KE.KDictWalk
import KE.KEqNest
import HandS.Flow
import KE.SortData
import HandS.Conv
import KE.KDictSum
import PySem.Challenge.RW_turnshelves_k40_reading_is_enough
set_option Elab.async false
set_option linter.all false
set_option maxRecDepth 100000
set_option maxHeartbeats 4000000
namespace Ow
open PySem PySem.Spec PyProof.Rows L2

/-- the def that the module's name x holds keeps sp, by k levels -/
structure Kn (P : Program) (w : World) (K : PySem.W.Frag) (mg : Str → Option Value) (base : Heap)
    (k : Nat) (x : Str) (ps : List Str) (sp : Sp) : Prop where
  ex : ∃ f fd, FnOk P w K mg base CX0 k f fd ps sp ∧ mg x = some (.ref f) ∧
    PySem.W.keepIn K (.ref f) = true ∧ Binds K fd ps []

theorem pe_kn {X : Cx} {k j : Nat} {x : Str} {ps : List Str} {sp : Sp} {p pos : Pos} {e : Expr}
    {es : List Expr} {t : TA} (c : Kn X.prog X.w X.K X.mg X.base k x ps sp) (hr : Room j X.A)
    (ha : PA X (e :: es) t) (hk : k ≤ j := by decide) (hg : Gl X x := by rfl)
    (hdb : (x == ("__debug__" : Str)) = false := by decide)
    (he : starEach (e :: es) X.env = (false, eval e X.env) :: starEach es X.env := by rfl)
    (hpl : (backTo pos (starEach es X.env)).any (·.1) = false := by rfl) :
    PE X (.Call (.Name x p) (e :: es) [] pos) (tCall sp [] E0 t) := by
  obtain ⟨f, fd, F, gm, kp, b⟩ := c.ex
  exact pe_call F (hr.mono hk) hg gm kp b .nil pass0 ha hdb he hpl

theorem hu64 {k : Nat} {A : Around} (hr : Room k A) : A.units + 64 < cLine := hr.units

/-- the heap but for what stands at p -/
def Gw (p : Addr) (H H' : Hp) : Prop := ∀ b o, b ≠ p → H b = some o → H' b = some o
theorem Gw.refl (p : Addr) (H : Hp) : Gw p H H := fun _ _ _ e => e
theorem Gw.trans {p : Addr} {H H1 H2 : Hp} (a : Gw p H H1) (b : Gw p H1 H2) : Gw p H H2 :=
  fun c o n e => b c o n (a c o n e)
theorem Gw.new {p q : Addr} {H : Hp} {o : HO} (n : H q = none) : Gw p H (upd H q o) :=
  fun b u _ e => by rw [upd_ne (ne_of_none e n)]; exact e
theorem Gw.put {p : Addr} {H : Hp} {o : HO} : Gw p H (upd H p o) :=
  fun b u nb e => by rw [upd_ne nb]; exact e
theorem Gw.same {p : Addr} {H H' : Hp} (s : Same H H') : Gw p H H' := fun b o _ e => s b o e
theorem Same.new {q : Addr} {H : Hp} {o : HO} (n : H q = none) : Same H (upd H q o) :=
  fun b u e => by rw [upd_ne (ne_of_none e n)]; exact e

/-- what a drawer keeps at p: its numbers (at d) and its place -/
def Rng (d : Addr) (H : Hp) (p : Addr) : Prop := ∃ (ds : List Int) (k : Int),
  H p = some (.lst [.ref d, .int k]) ∧ 0 ≤ k ∧ H d = some (.lst (ds.map V.int))
theorem Rng.ne {H : Hp} {p d : Addr} {k : Int} {ds : List Int} (h : H p = some (.lst [.ref d, .int k]))
    (g : H d = some (.lst (ds.map V.int))) : d ≠ p := by
  intro e
  subst e
  rw [h] at g
  injection g with g
  injection g with g
  cases ds with
  | nil => cases g
  | cons a r =>
    rw [List.map_cons] at g
    injection g with g1 _
    cases g1
theorem Rng.same {H H' : Hp} {p d : Addr} (r : Rng d H p) (s : Same H H') : Rng d H' p := by
  obtain ⟨ds, k, h, z, g⟩ := r
  exact ⟨ds, k, s _ _ h, z, s _ _ g⟩
theorem Rng.free {H : Hp} {p d q : Addr} (r : Rng d H p) (n : H q = none) : q ≠ p ∧ q ≠ d := by
  obtain ⟨ds, k, h, _, g⟩ := r
  exact ⟨(ne_of_none h n).symm, (ne_of_none g n).symm⟩
theorem Rng.upd {H : Hp} {p d q : Addr} {o : HO} (r : Rng d H p) (n : q ≠ p ∧ q ≠ d) : Rng d (L2.upd H q o) p := by
  obtain ⟨ds, k, h, z, g⟩ := r
  exact ⟨ds, k, by rw [upd_ne n.1.symm]; exact h, z, by rw [upd_ne n.2.symm]; exact g⟩

/-- a call that draws from p: whatever x it hands back, of which R tells -/
def Drw (p d : Addr) (H : Hp) (Q : VK) (R : V → Hp → Prop) : Prop :=
  ∀ x H', R x H' → Gw p H H' → Rng d H' p → Q x H'
theorem Gw.over {p o : Addr} {H H' : Hp} {u : HO} (g : Gw p H H') (n : H o = none) : Gw p H (upd H' o u) :=
  fun b x nb e => by rw [upd_ne (ne_of_none e n)]; exact g b x nb e
theorem Same.over {o : Addr} {H H' : Hp} {u : HO} (g : Same H H') (n : H o = none) : Same H (upd H' o u) :=
  fun b x e => by rw [upd_ne (ne_of_none e n)]; exact g b x e
theorem Gw.keep {p q : Addr} {H H' : Hp} {o : HO} (g : Gw p H H') (h : H q = some o) (n : q ≠ p) : H' q = some o := g q o n h
/-- what is free behind was free before -/
theorem Gw.free {p q : Addr} {H H' : Hp} (g : Gw p H H') (n : H' q = none) (ne : q ≠ p) : H q = none := by
  cases z : H q with
  | none => rfl
  | some o =>
    rw [g q o ne z] at n
    cases n
theorem small {n m : Nat} (h : n ≤ m) (hm : m ≤ 10000) : n < sizeLine :=
  Nat.lt_of_le_of_lt (Nat.le_trans h hm) (by decide)
end Ow
namespace Ow
open PySem PySem.Spec PyProof.Rows L2
theorem pget_list {X : Cx} : PGet X (rIxL X.K) := by
  intro pins s σ H o i ov iv Q I ro ri h
  obtain ⟨p, xs, n, v, rfl, rfl, hs, ha, q⟩ := h
  cases ro
  obtain ⟨t, rfl⟩ := ri
  obtain ⟨its, r, pl, hz⟩ := I.list hs
  obtain ⟨j, h1, h2, h3, h4, h5⟩ := atI_get ha
  obtain ⟨u, eu, ru⟩ := r.get h2
  have ln := line63
  have hl := r.length
  by_cases h0 : 0 ≤ n
  · have ej : n.toNat = j := by
      rw [seqIndex_of h0 h5] at h1
      exact Option.some.inj h1
    exact wpAny_getItem_list pl.isList h0 (by omega) (by rw [ej]; simpa using eu) ⟨v, H, I, ru, q⟩
  · have ej : (n + (its.toArray.size : Int)).toNat = j := by
      rw [seqIndex_neg (by omega) h4] at h1
      rw [List.size_toArray, ← hl]
      exact Option.some.inj h1
    exact wpAny_getItem_list_neg pl.isList (by omega) (by rw [List.size_toArray]; omega) (by omega)
      (by rw [ej]; simpa using eu) ⟨v, H, I, ru, q⟩
theorem at_in {α : Type} {xs : List α} {v : Int} (h0 : 0 ≤ v) (h1 : v < xs.length) : ∃ y, atI xs v = some y ∧ y ∈ xs := by
  have h : v.toNat < xs.length := by omega
  have e : v = ((v.toNat : Nat) : Int) := by omega
  refine ⟨xs[v.toNat], ?_, List.getElem_mem h⟩
  have z := atI_nat (xs := xs) (j := v.toNat) (List.getElem?_eq_getElem h)
  rw [← e] at z
  exact z
end Ow
namespace Ow
open PySem PySem.Spec PyProof.Rows L2
/-- a built-in class by its name -/
theorem pe_ty {X : Cx} (n : String) {x : Str} {pos : Pos} (hg : Gl X x) (hm : X.mg x = none) (hv : bootBuiltins x = some (.type n))
    (hn : x ≠ "__name__" := by decide) (hd : (x == ("__debug__" : Str)) = false := by decide) : PE X (.Name x pos) (tC (.ty n)) :=
  pe_bltn hg hm hv rfl hn hd
theorem sz (n : Nat) (h : n ≤ 1000 := by decide) : n ≤ sizeLine := Nat.le_trans h (by decide)
/-- a statement and the rest, with a word between -/
theorem pss_mid {X : Cx} {st : Stmt} {rest : List Stmt} {t u : TS} (a : PS X st t) (b : PSs X rest u) :
    PSs X (st :: rest) fun D σ H => ∃ Mid : L2.St → Hp → Prop, t { D with nx := Mid } σ H ∧ ∀ σ' H', Mid σ' H' → u D σ' H' := by
  refine ⟨fun pins s σ H D I ⟨Mid, hm, hu⟩ => ?_⟩
  refine wpAny_execs_cons (thn (a.run pins s σ H { D with nx := Mid } I hm) fun f s1 q => ?_)
  cases f with
  | next =>
    obtain ⟨σ', H', I', q⟩ := q
    exact b.run pins s1 σ' H' D I' (hu σ' H' q)
  | ret v => exact q
  | brk => exact q
  | cont => exact q
end Ow
namespace Tlz
open PySem PySem.SeqAt PySem.MeetsSeq PySem.MeetsSeq2 PySem.MeetsSeq3
open PySem.AutoSeq1 (wpAny_loadPart')

/-- x op y gives the answer k and leaves the state -/
def Rc (op : CmpOp) (A : Around) (s : Shared) (x y : Value) (k : Bool) : Prop :=
  ∀ (P : Program) (w : World) (E Q : Value → Shared → Prop), Q (.bool k) s →
    wpAny (model P w) A (richCompare op x y) Q E s

/-- the first of the next k places, from i on, that differs tells; fin if none does -/
def scan (eq ans : Nat → Bool) (fin : Bool) (i : Nat) : Nat → Bool
  | 0 => fin
  | k + 1 => cond (eq i) (scan eq ans fin (i + 1) k) (ans i)

theorem scan_eq {eq ans : Nat → Bool} {fin : Bool} {i k : Nat} (h : eq i = true) :
    scan eq ans fin i (k + 1) = scan eq ans fin (i + 1) k := by
  show cond (eq i) _ _ = _
  rw [h]; rfl
theorem scan_ne {eq ans : Nat → Bool} {fin : Bool} {i k : Nat} (h : eq i = false) :
    scan eq ans fin i (k + 1) = ans i := by
  show cond (eq i) _ _ = _
  rw [h]; rfl

theorem ltBody (a b : Addr) (us vs : Array Value) (n m : Nat) (da db : Option Addr)
    (sa sb : Array (Option Value)) (eq ans : Nat → Bool) :
    Meets (Builtin.«tuple.__lt__» ⟨[.ref a, .ref b], []⟩) (fun A R s =>
      s.heap.get? a = some ⟨.type "tuple", da, .seq us n, sa⟩ ∧
      s.heap.get? b = some ⟨.type "tuple", db, .seq vs m, sb⟩ ∧
      (∀ j (p : j < us.size) (q : j < vs.size), EqAt A.in1 s us[j] vs[j] (eq j)) ∧
      (∀ j (p : j < us.size) (q : j < vs.size), (∀ i, i < j → eq i = true) → eq j = false →
        Rc .Lt A.in1 s us[j] vs[j] (ans j)) ∧
      R (.ok (.ret (.bool (scan eq ans (decide (us.size < vs.size)) 0 (min us.size vs.size))))) s) :=
  .of_wp fun P w A R s ⟨ha, hb, he, hr, h⟩ => by
    obtain ⟨hp, g, d, tk, os⟩ := s
    have sub := AutoSeq1.sub_tuple_tuple
    have len : (us.toList.zip vs.toList).length = min us.size vs.size := by simp
    wp_walk using wpAny_loadPart' ha, wpAny_loadPart' hb, wpAny_forIn_list _ (fun rest c s' => c.1 = none ∧
      s' = ⟨hp, g, d, tk, os⟩ ∧ ∃ i, rest = (us.toList.zip vs.toList).drop i ∧ (∀ z, z < i → eq z = true) ∧
      R (.ok (.ret (.bool (scan eq ans (decide (us.size < vs.size)) i (min us.size vs.size - i))))) s') _
    case turn =>
      rintro ⟨y, x⟩ rest c s' ⟨hc, rfl, i, hz, pre, hR⟩
      have hi : i < min us.size vs.size := by
        rw [← len]
        apply Nat.lt_of_not_le
        intro z
        rw [List.drop_of_length_le z] at hz
        cases hz
      have p : i < us.size := by omega
      have q : i < vs.size := by omega
      rw [List.drop_eq_getElem_cons (by rw [len]; exact hi)] at hz
      injection hz with e1 e2
      have ey : y = us[i] := by simpa using congrArg Prod.fst e1
      have ex : x = vs[i] := by simpa using congrArg Prod.snd e1
      subst ey ex
      have cut : min us.size vs.size - i = min us.size vs.size - (i + 1) + 1 := by omega
      rw [cut] at hR
      refine wpAny_bind (he i p q P w _ _ ?_)
      by_cases k : eq i = true
      · rw [scan_eq k] at hR
        rw [k]
        wp_walk
        refine ⟨rfl, rfl, i + 1, e2, fun z hz => ?_, hR⟩
        by_cases t : z = i
        · rw [t]; exact k
        · exact pre z (by omega)
      · have k' : eq i = false := by simpa using k
        rw [scan_ne k'] at hR
        have r := hr i p q pre k' P w
        rw [k']
        wp_walk using r
        exact ⟨_, rfl, by simpa using hR⟩
    case fin =>
      rintro ⟨c1, c2⟩ s' ⟨hc, rfl, i, hz, pre, hR⟩
      have hc' : c1 = none := hc
      subst hc'
      have hi : min us.size vs.size ≤ i := by
        apply Nat.le_of_not_lt
        intro z
        rw [List.drop_eq_getElem_cons (by rw [len]; exact z)] at hz
        cases hz
      rw [Nat.sub_eq_zero_of_le hi] at hR
      wp_walk
      exact ⟨_, rfl, by simpa [Builtin.Tuple.tupleCompareSizes, scan] using hR⟩
    case h => exact ⟨rfl, rfl, 0, rfl, fun _ z => absurd z (Nat.not_lt_zero _), by simpa using h⟩

theorem gtBody (a b : Addr) (us vs : Array Value) (n m : Nat) (da db : Option Addr)
    (sa sb : Array (Option Value)) (eq ans : Nat → Bool) :
    Meets (Builtin.«tuple.__gt__» ⟨[.ref a, .ref b], []⟩) (fun A R s =>
      s.heap.get? a = some ⟨.type "tuple", da, .seq us n, sa⟩ ∧
      s.heap.get? b = some ⟨.type "tuple", db, .seq vs m, sb⟩ ∧
      (∀ j (p : j < us.size) (q : j < vs.size), EqAt A.in1 s us[j] vs[j] (eq j)) ∧
      (∀ j (p : j < us.size) (q : j < vs.size), (∀ i, i < j → eq i = true) → eq j = false →
        Rc .Gt A.in1 s us[j] vs[j] (ans j)) ∧
      R (.ok (.ret (.bool (scan eq ans (decide (us.size > vs.size)) 0 (min us.size vs.size))))) s) :=
  .of_wp fun P w A R s ⟨ha, hb, he, hr, h⟩ => by
    obtain ⟨hp, g, d, tk, os⟩ := s
    have sub := AutoSeq1.sub_tuple_tuple
    have len : (us.toList.zip vs.toList).length = min us.size vs.size := by simp
    wp_walk using wpAny_loadPart' ha, wpAny_loadPart' hb, wpAny_forIn_list _ (fun rest c s' => c.1 = none ∧
      s' = ⟨hp, g, d, tk, os⟩ ∧ ∃ i, rest = (us.toList.zip vs.toList).drop i ∧ (∀ z, z < i → eq z = true) ∧
      R (.ok (.ret (.bool (scan eq ans (decide (us.size > vs.size)) i (min us.size vs.size - i))))) s') _
    case turn =>
      rintro ⟨y, x⟩ rest c s' ⟨hc, rfl, i, hz, pre, hR⟩
      have hi : i < min us.size vs.size := by
        rw [← len]
        apply Nat.lt_of_not_le
        intro z
        rw [List.drop_of_length_le z] at hz
        cases hz
      have p : i < us.size := by omega
      have q : i < vs.size := by omega
      rw [List.drop_eq_getElem_cons (by rw [len]; exact hi)] at hz
      injection hz with e1 e2
      have ey : y = us[i] := by simpa using congrArg Prod.fst e1
      have ex : x = vs[i] := by simpa using congrArg Prod.snd e1
      subst ey ex
      have cut : min us.size vs.size - i = min us.size vs.size - (i + 1) + 1 := by omega
      rw [cut] at hR
      refine wpAny_bind (he i p q P w _ _ ?_)
      by_cases k : eq i = true
      · rw [scan_eq k] at hR
        rw [k]
        wp_walk
        refine ⟨rfl, rfl, i + 1, e2, fun z hz => ?_, hR⟩
        by_cases t : z = i
        · rw [t]; exact k
        · exact pre z (by omega)
      · have k' : eq i = false := by simpa using k
        rw [scan_ne k'] at hR
        have r := hr i p q pre k' P w
        rw [k']
        wp_walk using r
        exact ⟨_, rfl, by simpa using hR⟩
    case fin =>
      rintro ⟨c1, c2⟩ s' ⟨hc, rfl, i, hz, pre, hR⟩
      have hc' : c1 = none := hc
      subst hc'
      have hi : min us.size vs.size ≤ i := by
        apply Nat.le_of_not_lt
        intro z
        rw [List.drop_eq_getElem_cons (by rw [len]; exact z)] at hz
        cases hz
      rw [Nat.sub_eq_zero_of_le hi] at hR
      wp_walk
      exact ⟨_, rfl, by simpa [Builtin.Tuple.tupleCompareSizes, scan] using hR⟩
    case h => exact ⟨rfl, rfl, 0, rfl, fun _ z => absurd z (Nat.not_lt_zero _), by simpa using h⟩

theorem Rc.tupLt {A : Around} {s : Shared} {a b : Addr} {us vs : Array Value} {eq ans : Nat → Bool}
    (ta : s.heap.IsTuple a us) (tb : s.heap.IsTuple b vs) (hu : A.units < cLine)
    (he : ∀ j (p : j < us.size) (q : j < vs.size), EqAt A.in1 s us[j] vs[j] (eq j))
    (hr : ∀ j (p : j < us.size) (q : j < vs.size), (∀ i, i < j → eq i = true) → eq j = false →
      Rc .Lt A.in1 s us[j] vs[j] (ans j)) :
    Rc .Lt A s (.ref a) (.ref b) (scan eq ans (decide (us.size < vs.size)) 0 (min us.size vs.size)) := by
  intro P w E Q h
  obtain ⟨⟨c1, da, t1, sa⟩, ga, ca, n, ea⟩ := id ta
  obtain ⟨⟨c2, db, t2, sb⟩, gb, cb, m, eb⟩ := id tb
  have ca1 : c1 = Value.type "tuple" := ca
  have cb1 : c2 = Value.type "tuple" := cb
  have ea1 : t1 = .seq us n := ea
  have eb1 : t2 = .seq vs m := eb
  subst ca1 cb1 ea1 eb1
  exact richCompare_meets_room (op := .Lt) ⟨_, ga, rfl⟩ ⟨_, gb, rfl⟩ F.slot_tuple_lt F.entry_tuple_lt
    (F.args_tuple_lt_2 _ _) (ltBody a b us vs n m da db sa sb eq ans)
    ⟨ga, gb, he, hr, fun z => (nomatch z), h⟩ hu

theorem Rc.tupGt {A : Around} {s : Shared} {a b : Addr} {us vs : Array Value} {eq ans : Nat → Bool}
    (ta : s.heap.IsTuple a us) (tb : s.heap.IsTuple b vs) (hu : A.units < cLine)
    (he : ∀ j (p : j < us.size) (q : j < vs.size), EqAt A.in1 s us[j] vs[j] (eq j))
    (hr : ∀ j (p : j < us.size) (q : j < vs.size), (∀ i, i < j → eq i = true) → eq j = false →
      Rc .Gt A.in1 s us[j] vs[j] (ans j)) :
    Rc .Gt A s (.ref a) (.ref b) (scan eq ans (decide (us.size > vs.size)) 0 (min us.size vs.size)) := by
  intro P w E Q h
  obtain ⟨⟨c1, da, t1, sa⟩, ga, ca, n, ea⟩ := id ta
  obtain ⟨⟨c2, db, t2, sb⟩, gb, cb, m, eb⟩ := id tb
  have ca1 : c1 = Value.type "tuple" := ca
  have cb1 : c2 = Value.type "tuple" := cb
  have ea1 : t1 = .seq us n := ea
  have eb1 : t2 = .seq vs m := eb
  subst ca1 cb1 ea1 eb1
  exact richCompare_meets_room (op := .Gt) ⟨_, ga, rfl⟩ ⟨_, gb, rfl⟩ F.slot_tuple_gt F.entry_tuple_gt
    (F.args_tuple_gt_2 _ _) (gtBody a b us vs n m da db sa sb eq ans)
    ⟨ga, gb, he, hr, fun z => (nomatch z), h⟩ hu
end Tlz
namespace Tlz
open PySem PySem.SeqAt PyProof.Rows
def ltL (f : PyData → PyData → Bool) : List PyData → List PyData → Bool
  | [], [] => false
  | [], _ :: _ => true
  | _ :: _, [] => false
  | x :: xs, y :: ys => if PyData.eqv x y = true then ltL f xs ys else f x y
def gtL (f : PyData → PyData → Bool) : List PyData → List PyData → Bool
  | [], [] => false
  | [], _ :: _ => false
  | _ :: _, [] => true
  | x :: xs, y :: ys => if PyData.eqv x y = true then gtL f xs ys else f x y
/-- comparable as far as it is asked -/
def okL (f : PyData → PyData → Bool) : List PyData → List PyData → Bool
  | x :: xs, y :: ys => if PyData.eqv x y = true then okL f xs ys else f x y
  | [], _ => true
  | _ :: _, [] => true
def ltD : Nat → PyData → PyData → Bool
  | _, .int i, .int j => decide (i < j)
  | _, .str x, .str y => decide (x.cps.toList < y.cps.toList)
  | n + 1, .tuple xs, .tuple ys => ltL (ltD n) xs ys
  | _, _, _ => false
def gtD : Nat → PyData → PyData → Bool
  | _, .int i, .int j => decide (j < i)
  | _, .str x, .str y => decide (y.cps.toList < x.cps.toList)
  | n + 1, .tuple xs, .tuple ys => gtL (gtD n) xs ys
  | _, _, _ => false
def okD : Nat → PyData → PyData → Bool
  | _, .int _, .int _ => true
  | _, .str _, .str _ => true
  | n + 1, .tuple xs, .tuple ys => okL (okD n) xs ys
  | _, _, _ => false
abbrev at_ (xs : List PyData) (j : Nat) : PyData := xs.getD j .none
theorem scan_shift (eq ans : Nat → Bool) (fin : Bool) : ∀ k i : Nat,
    scan eq ans fin (i + 1) k = scan (fun j => eq (j + 1)) (fun j => ans (j + 1)) fin i k
  | 0, _ => rfl
  | k + 1, i => by
    show cond (eq (i + 1)) (scan eq ans fin (i + 1 + 1) k) (ans (i + 1)) = cond (eq (i + 1)) (scan _ _ fin (i + 1) k) (ans (i + 1))
    rw [scan_shift eq ans fin k (i + 1)]
theorem scan_lt (f : PyData → PyData → Bool) : ∀ xs ys : List PyData,
    scan (fun j => PyData.eqv (at_ xs j) (at_ ys j)) (fun j => f (at_ xs j) (at_ ys j)) (decide (xs.length < ys.length)) 0 (min xs.length ys.length) = ltL f xs ys
  | [], [] => rfl
  | [], _ :: ys => by simp [scan, ltL]
  | _ :: xs, [] => by simp [scan, ltL]
  | x :: xs, y :: ys => by
    have e : min (x :: xs).length (y :: ys).length = min xs.length ys.length + 1 := by
      rw [List.length_cons, List.length_cons]; omega
    have d : decide ((x :: xs).length < (y :: ys).length) = decide (xs.length < ys.length) := by
      rw [List.length_cons, List.length_cons]
      exact decide_eq_decide.mpr (by omega)
    rw [e, d]
    show cond (PyData.eqv x y) (scan _ _ _ (0 + 1) (min xs.length ys.length)) (f x y) = _
    rw [scan_shift]
    have ih := scan_lt f xs ys
    unfold ltL
    cases h : PyData.eqv x y with
    | true => exact ih
    | false => rfl
theorem scan_gt (f : PyData → PyData → Bool) : ∀ xs ys : List PyData,
    scan (fun j => PyData.eqv (at_ xs j) (at_ ys j)) (fun j => f (at_ xs j) (at_ ys j)) (decide (xs.length > ys.length)) 0 (min xs.length ys.length) = gtL f xs ys
  | [], [] => rfl
  | [], _ :: ys => by simp [scan, gtL]
  | _ :: xs, [] => by simp [scan, gtL]
  | x :: xs, y :: ys => by
    have e : min (x :: xs).length (y :: ys).length = min xs.length ys.length + 1 := by
      rw [List.length_cons, List.length_cons]; omega
    have d : decide ((x :: xs).length > (y :: ys).length) = decide (xs.length > ys.length) := by
      rw [List.length_cons, List.length_cons]
      exact decide_eq_decide.mpr (by omega)
    rw [e, d]
    show cond (PyData.eqv x y) (scan _ _ _ (0 + 1) (min xs.length ys.length)) (f x y) = _
    rw [scan_shift]
    have ih := scan_gt f xs ys
    unfold gtL
    cases h : PyData.eqv x y with
    | true => exact ih
    | false => rfl
theorem okL_at (f : PyData → PyData → Bool) : ∀ (xs ys : List PyData), okL f xs ys = true → ∀ j, j < xs.length → j < ys.length →
    (∀ i, i < j → PyData.eqv (at_ xs i) (at_ ys i) = true) → PyData.eqv (at_ xs j) (at_ ys j) = false → f (at_ xs j) (at_ ys j) = true
  | [], _, _, j, h, _, _, _ => absurd h (Nat.not_lt_zero _)
  | _ :: _, [], _, j, _, h, _, _ => absurd h (Nat.not_lt_zero _)
  | x :: xs, y :: ys, h, j, h1, h2, pre, ne => by
    unfold okL at h
    cases j with
    | zero =>
      have n : PyData.eqv x y = false := ne
      rw [n] at h
      exact h
    | succ j =>
      have p : PyData.eqv x y = true := pre 0 (Nat.succ_pos _)
      rw [p] at h
      exact okL_at f xs ys h j (by simpa using h1) (by simpa using h2) (fun i hi => pre (i + 1) (by omega)) ne
theorem reads_at {h : Heap} : ∀ {vs : List Value} {ds : List PyData} {as : List Addr}, ReadsAll h vs ds as → ∀ j (p : j < vs.length), ∃ bs, Reads h vs[j] (at_ ds j) bs
  | _, _, _, .nil, j, p => absurd p (Nat.not_lt_zero _)
  | _, _, _, .cons r _, 0, _ => ⟨_, r⟩
  | _, _, _, .cons _ t, j + 1, p => reads_at t j (by simpa using p)
theorem lay_at : ∀ (ds : List PyData), PyData.canLayAll0 ds = true → ∀ j, j < ds.length → (at_ ds j).canLay0 = true
  | [], _, j, p => absurd p (Nat.not_lt_zero _)
  | d :: ds, h, j, p => by
    unfold PyData.canLayAll0 at h
    rw [Bool.and_eq_true] at h
    cases j with
    | zero => exact h.1
    | succ j => exact lay_at ds h.2 j (by simpa using p)
theorem deep_at : ∀ (ds : List PyData) (n : Nat), PyData.depthAll ds ≤ n → ∀ j, (at_ ds j).depth ≤ n
  | [], n, _, j => by
    show (PyData.none).depth ≤ n
    exact Nat.zero_le _
  | d :: ds, n, h, j => by
    unfold PyData.depthAll at h
    cases j with
    | zero => exact Nat.le_trans (Nat.le_max_left _ _) h
    | succ j => exact deep_at ds n (Nat.le_trans (Nat.le_max_right _ _) h) j
theorem rcLt : ∀ (n : Nat) (d e : PyData) (A : Around) (s : Shared) (v u : Value) (as bs : List Addr), Reads s.heap v d as → Reads s.heap u e bs →
    d.canLay0 = true → e.canLay0 = true → d.depth ≤ n → okD n d e = true → A.units + n < cLine → Rc .Lt A s v u (ltD n d e) := by
  intro n
  induction n with
  | zero =>
    intro d e A s v u as bs rv ru cd ce dd ok hu
    cases rv with
    | int i t =>
      cases ru with
      | int j t' => exact fun _ _ _ _ h => PyProof.Rows.lt_int h
      | _ => exact absurd ok (by simp [okD])
    | str x t =>
      cases ru with
      | str y t' => exact fun _ _ _ _ h => PyProof.Rows.lt_str h
      | _ => exact absurd ok (by simp [okD])
    | _ => exact absurd ok (by simp [okD])
  | succ n ih =>
    intro d e A s v u as bs rv ru cd ce dd ok hu
    cases rv with
    | int i t =>
      cases ru with
      | int j t' => exact fun _ _ _ _ h => PyProof.Rows.lt_int h
      | _ => exact absurd ok (by simp [okD])
    | str x t =>
      cases ru with
      | str y t' => exact fun _ _ _ _ h => PyProof.Rows.lt_str h
      | _ => exact absurd ok (by simp [okD])
    | @tuple a o vs k xs as h1 h2 h3 h4 =>
      cases ru with
      | @tuple b o' ws k' ys bs g1 g2 g3 g4 =>
        have lx : vs.size = xs.length := by simpa using ReadsAll.lenAny h4
        have ly : ws.size = ys.length := by simpa using ReadsAll.lenAny g4
        have dx : PyData.depthAll xs ≤ n := by
          have z : PyData.depthAll xs + 1 ≤ n + 1 := dd
          omega
        have ok' : okL (okD n) xs ys = true := ok
        have R := Rc.tupLt (A := A) (eq := fun j => PyData.eqv (at_ xs j) (at_ ys j)) (ans := fun j => ltD n (at_ xs j) (at_ ys j)) (a := a) (b := b) (us := vs) (vs := ws) (s := s)
          ⟨_, h1, h2, _, h3⟩ ⟨_, g1, g2, _, g3⟩ (by omega) (fun j p q => by
            obtain ⟨_, r1⟩ := reads_at h4 j (by simpa using p)
            obtain ⟨_, r2⟩ := reads_at g4 j (by simpa using q)
            have := eqAt_reads _ _ A.in1 s _ _ _ _ r1 r2 (lay_at xs cd j (by omega)) (lay_at ys ce j (by omega)) (by
              have z := deep_at xs n dx j
              have zz : min (at_ xs j).depth (at_ ys j).depth ≤ (at_ xs j).depth := Nat.min_le_left _ _
              show A.units + 1 + _ < cLine
              omega)
            simpa using this) (fun j p q pre ne => by
            obtain ⟨_, r1⟩ := reads_at h4 j (by simpa using p)
            obtain ⟨_, r2⟩ := reads_at g4 j (by simpa using q)
            have := ih _ _ A.in1 s _ _ _ _ r1 r2 (lay_at xs cd j (by omega)) (lay_at ys ce j (by omega)) (deep_at xs n dx j)
              (okL_at (okD n) xs ys ok' j (by omega) (by omega) pre ne) (by
                show A.units + 1 + n < cLine
                omega)
            simpa using this)
        rw [lx, ly, scan_lt] at R
        exact R
      | _ => exact absurd ok (by simp [okD])
    | _ => exact absurd ok (by simp [okD])
theorem rcGt : ∀ (n : Nat) (d e : PyData) (A : Around) (s : Shared) (v u : Value) (as bs : List Addr), Reads s.heap v d as → Reads s.heap u e bs →
    d.canLay0 = true → e.canLay0 = true → d.depth ≤ n → okD n d e = true → A.units + n < cLine → Rc .Gt A s v u (gtD n d e) := by
  intro n
  induction n with
  | zero =>
    intro d e A s v u as bs rv ru cd ce dd ok hu
    cases rv with
    | int i t =>
      cases ru with
      | int j t' => exact fun _ _ _ _ h => PyProof.Rows.gt_int h
      | _ => exact absurd ok (by simp [okD])
    | str x t =>
      cases ru with
      | str y t' => exact fun _ _ _ _ h => PySem.P.gt_str h
      | _ => exact absurd ok (by simp [okD])
    | _ => exact absurd ok (by simp [okD])
  | succ n ih =>
    intro d e A s v u as bs rv ru cd ce dd ok hu
    cases rv with
    | int i t =>
      cases ru with
      | int j t' => exact fun _ _ _ _ h => PyProof.Rows.gt_int h
      | _ => exact absurd ok (by simp [okD])
    | str x t =>
      cases ru with
      | str y t' => exact fun _ _ _ _ h => PySem.P.gt_str h
      | _ => exact absurd ok (by simp [okD])
    | @tuple a o vs k xs as h1 h2 h3 h4 =>
      cases ru with
      | @tuple b o' ws k' ys bs g1 g2 g3 g4 =>
        have lx : vs.size = xs.length := by simpa using ReadsAll.lenAny h4
        have ly : ws.size = ys.length := by simpa using ReadsAll.lenAny g4
        have dx : PyData.depthAll xs ≤ n := by
          have z : PyData.depthAll xs + 1 ≤ n + 1 := dd
          omega
        have ok' : okL (okD n) xs ys = true := ok
        have R := Rc.tupGt (A := A) (eq := fun j => PyData.eqv (at_ xs j) (at_ ys j)) (ans := fun j => gtD n (at_ xs j) (at_ ys j)) (a := a) (b := b) (us := vs) (vs := ws) (s := s)
          ⟨_, h1, h2, _, h3⟩ ⟨_, g1, g2, _, g3⟩ (by omega) (fun j p q => by
            obtain ⟨_, r1⟩ := reads_at h4 j (by simpa using p)
            obtain ⟨_, r2⟩ := reads_at g4 j (by simpa using q)
            have := eqAt_reads _ _ A.in1 s _ _ _ _ r1 r2 (lay_at xs cd j (by omega)) (lay_at ys ce j (by omega)) (by
              have z := deep_at xs n dx j
              have zz : min (at_ xs j).depth (at_ ys j).depth ≤ (at_ xs j).depth := Nat.min_le_left _ _
              show A.units + 1 + _ < cLine
              omega)
            simpa using this) (fun j p q pre ne => by
            obtain ⟨_, r1⟩ := reads_at h4 j (by simpa using p)
            obtain ⟨_, r2⟩ := reads_at g4 j (by simpa using q)
            have := ih _ _ A.in1 s _ _ _ _ r1 r2 (lay_at xs cd j (by omega)) (lay_at ys ce j (by omega)) (deep_at xs n dx j)
              (okL_at (okD n) xs ys ok' j (by omega) (by omega) pre ne) (by
                show A.units + 1 + n < cLine
                omega)
            simpa using this)
        rw [lx, ly, scan_gt] at R
        exact R
      | _ => exact absurd ok (by simp [okD])
    | _ => exact absurd ok (by simp [okD])
end Tlz
namespace K1
open PySem PySem.Spec PyProof.Rows L2 Ow
def topS (i : Nat) : Stmt := PySem.Challenge.pw_turnshelves_k40_reading_is_enough.main.body.getD i (.Pass ⟨0, 0, 0, 0⟩)
/-- the names that the top leaves alone -/
structure Bl (mg : Str → Option Value) : Prop where
  range : mg "range" = none
  len : mg "len" = none
  int : mg "int" = none
  str : mg "str" = none
  bool : mg "bool" = none
  list : mg "list" = none
  tuple : mg "tuple" = none
  dict : mg "dict" = none
  isinstance : mg "isinstance" = none
  min : mg "min" = none
  sum : mg "sum" = none
  sorted : mg "sorted" = none
  abs : mg "abs" = none
  ord : mg "ord" = none
end K1
namespace K1
open PySem PySem.Spec PyProof.Rows L2 Ow
/-- the signs of a text are those of values -/
def Pr (z : Str) : Prop := ∀ c ∈ z.cps.toList, 32 ≤ c ∧ c < 127 ∧ c ≠ 37
instance (z : Str) : Decidable (Pr z) := inferInstanceAs (Decidable (∀ c ∈ z.cps.toList, 32 ≤ c ∧ c < 127 ∧ c ≠ 37))
theorem joinL_mem : ∀ (ps : List (List Nat)) (c : Nat), c ∈ TL.joinL [] ps → ∃ p ∈ ps, c ∈ p
  | [], _, h => nomatch h
  | [p], c, h => ⟨p, List.mem_singleton.mpr rfl, h⟩
  | p :: q :: r, c, h => by
    have h' : c ∈ p ++ ([] ++ TL.joinL [] (q :: r)) := h
    rw [List.nil_append] at h'
    rcases List.mem_append.mp h' with z | z
    · exact ⟨p, List.mem_cons_self, z⟩
    · obtain ⟨x, m, i⟩ := joinL_mem (q :: r) c z
      exact ⟨x, List.mem_cons_of_mem _ m, i⟩
theorem joinL_len : ∀ (ps : List (List Nat)), (TL.joinL [] ps).length = (ps.map (·.length)).sum
  | [] => rfl
  | [p] => by simp [TL.joinL]
  | p :: q :: r => by
    have e : TL.joinL [] (p :: q :: r) = p ++ ([] ++ TL.joinL [] (q :: r)) := rfl
    rw [e, List.nil_append, List.length_append, joinL_len (q :: r)]
    rfl
theorem Pr.join {ys : List Str} (h : ∀ y ∈ ys, Pr y) : Pr (Txt.join (PySem.Str.ofString "") ys) := by
  intro c hc
  rw [TL.join_eq] at hc
  have h1 : c ∈ TL.joinL [] (ys.map fun z => z.cps.toList) := by
    have hc' : c ∈ TL.tl (Str.join (PySem.Str.ofString "") ys) := hc
    rw [TL.tl_join] at hc'
    exact hc'
  obtain ⟨p, m, i⟩ := joinL_mem _ _ h1
  obtain ⟨y, my, rfl⟩ := List.mem_map.mp m
  exact h y my c i
theorem join_size {ys : List Str} : (Txt.join (PySem.Str.ofString "") ys).length = (ys.map (·.length)).sum := by
  rw [TL.join_eq]
  have e : (TL.tl (Str.join (PySem.Str.ofString "") ys)).length = (Str.join (PySem.Str.ofString "") ys).length := by
    show (Str.join (PySem.Str.ofString "") ys).cps.toList.length = _
    rw [Array.length_toList]
    rfl
  rw [← e, TL.tl_join]
  show (TL.joinL [] (ys.map fun z => z.cps.toList)).length = _
  rw [joinL_len, List.map_map]
  congr 1
/-- a value of a row -/
def Scal (v : V) : Prop := (∃ i, v = .int i ∧ i.natAbs < 2 ^ 140) ∨ ∃ z, v = .str z ∧ Pr z ∧ z.length ≤ 200
def firstV : V → V → Bool
  | .int i, .int j => decide (i < j)
  | .int _, .str _ => true
  | .str _, .int _ => false
  | .str x, .str y => decide (x.cps.toList < y.cps.toList)
  | _, _ => false
def orderV : List V → List V → Int
  | [], [] => 0
  | [], _ :: _ => -1
  | _ :: _, [] => 1
  | x :: xs, y :: ys => if firstV x y = true then -1 else if firstV y x = true then 1 else orderV xs ys
def spMix : Sp := fun vs H Q _ => ∃ c k : Int, vs = [.int c, .int k] ∧
  ∀ v : Int, 0 ≤ v → v < 9973 → Q (.int v) H
def spDraws (K : PySem.W.Frag) : Sp := fun vs H Q _ => ∃ (a : Addr) (ns : List Int), vs = [.ref a] ∧
  SqL K H a (ns.map V.int) ∧ ns.length ≤ 63 ∧ ∀ (H' : Hp) (p : Addr) (ds : List Int), Same H H' → H p = none →
    H' p = some (.lst (ds.map V.int)) → Q (.ref p) H'
def spAt (K : PySem.W.Frag) : Sp := fun vs H Q _ => ∃ (d : Addr) (ds : List Int) (i : Int), vs = [.ref d, .int i] ∧
  SqL K H d (ds.map V.int) ∧ 0 ≤ i ∧ ∀ v : Int, Q (.int v) H
def spNext : Sp := fun vs H Q _ => ∃ (p d : Addr) (l : Int), vs = [.ref p, .int l] ∧ 0 < l ∧ Rng d H p ∧
  Drw p d H Q fun x _ => ∃ v : Int, x = .int v ∧ 0 ≤ v ∧ v < l
def spText : Sp := fun vs H Q _ => ∃ (p d : Addr) (m : Nat), vs = [.ref p, .int (m : Int)] ∧ m ≤ 1000 ∧ Rng d H p ∧
  Drw p d H Q fun x _ => ∃ z : Str, x = .str z ∧ Pr z ∧ z.length ≤ m
def spValue : Sp := fun vs H Q _ => ∃ p d : Addr, vs = [.ref p] ∧ Rng d H p ∧ Drw p d H Q fun x _ => Scal x
def spRow : Sp := fun vs H Q _ => ∃ (p d : Addr) (n : Nat), vs = [.ref p, .int (n : Int)] ∧ n ≤ 1000 ∧ Rng d H p ∧
  Drw p d H Q fun x H' => ∃ (q : Addr) (xs : List V), x = .ref q ∧ H' q = some (.tup xs) ∧ xs.length = n ∧ ∀ y ∈ xs, Scal y
def spName : Sp := fun vs H Q _ => ∃ p d : Addr, vs = [.ref p] ∧ Rng d H p ∧ Drw p d H Q fun x _ => ∃ z, x = .str z ∧ Pr z
def spFirst : Sp := fun vs H Q _ => ∃ a b : V, vs = [a, b] ∧ Scal a ∧ Scal b ∧ Q (.bl (firstV a b)) H
def spOrder (K : PySem.W.Frag) : Sp := fun vs H Q _ => ∃ (a b : Addr) (xs ys : List V), vs = [.ref a, .ref b] ∧
  SqT K H a xs ∧ SqT K H b ys ∧ xs.length ≤ 1000 ∧ (∀ x ∈ xs, Scal x) ∧ (∀ y ∈ ys, Scal y) ∧ Q (.int (orderV xs ys)) H
/-- a tuple whose object is known -/
def FT (H : Hp) (a : Addr) (xs : List V) : Prop := ∃ o : Obj, H a = some (.frz o (.tup xs)) ∧ o.dict = none ∧ o.cls = .type "tuple"
theorem FT.sq {K : PySem.W.Frag} {H : Hp} {a : Addr} {xs : List V} (h : FT H a xs) : SqT K H a xs := by
  obtain ⟨o, h, _⟩ := h
  exact .inl (.inr ⟨o, h⟩)
structure Tk (K : PySem.W.Frag) (H H' : Hp) : Prop where
  f : ∀ (a : Addr) (xs : List V), SqT K H a xs → SqT K H' a xs
  x : ∀ (a : Addr) (xs : List V), FT H a xs → FT H' a xs
instance {K : PySem.W.Frag} {H H' : Hp} : CoeFun (Tk K H H') (fun _ => ∀ (a : Addr) (xs : List V), SqT K H a xs → SqT K H' a xs) := ⟨Tk.f⟩
theorem Tk.same {K : PySem.W.Frag} {H H' : Hp} (s : Same H H') : Tk K H H' := by
  refine ⟨fun a xs h => ?_, fun a xs ⟨o, h, d⟩ => ⟨o, s _ _ h, d⟩⟩
  rcases h with (h | ⟨o, h⟩) | h
  · exact .inl (.inl (s _ _ h))
  · exact .inl (.inr ⟨o, s _ _ h⟩)
  · exact .inr h
theorem Tk.trans {K : PySem.W.Frag} {H H1 H2 : Hp} (a : Tk K H H1) (b : Tk K H1 H2) : Tk K H H2 := ⟨fun c xs h => b.f c xs (a.f c xs h), fun c xs h => b.x c xs (a.x c xs h)⟩
theorem Tk.gw {K : PySem.W.Frag} {H H' : Hp} {p : Addr} {us : List V} (e : H p = some (.lst us)) (g : Gw p H H') : Tk K H H' := by
  refine ⟨fun a xs h => ?_, fun a xs ⟨o, h, d⟩ => ⟨o, g _ _ (fun z => by rw [z, e] at h; cases h) h, d⟩⟩
  rcases h with (h | ⟨o, h⟩) | h
  · exact .inl (.inl (g _ _ (fun z => by rw [z, e] at h; cases h) h))
  · exact .inl (.inr ⟨o, g _ _ (fun z => by rw [z, e] at h; cases h) h⟩)
  · exact .inr h
theorem Tk.put {K : PySem.W.Frag} {H : Hp} {p : Addr} {us : List V} {o : HO} (e : H p = some (.lst us)) : Tk K H (upd H p o) := Tk.gw e Gw.put
/-- a def that makes something and keeps all else -/
def Mak (H : Hp) (Q : VK) (R : V → Hp → Prop) : Prop := ∀ x H', R x H' → Same H H' → Q x H'
theorem SqL.same {K : PySem.W.Frag} {H H' : Hp} {a : Addr} {xs : List V} (s : Same H H') (h : SqL K H a xs) : SqL K H' a xs := s.seq h
end K1
namespace Ow
open PySem PySem.Spec PyProof.Rows L2
theorem for_str {x : Str} {g : TG} {tb : TS} {D : Ends} {σ : L2.St} {H : Hp} (Pv : Nat → L2.St → Hp → Prop) (h0 : Pv 0 σ H)
    (hs : ∀ i c σ H, x.cps[i]? = some c → Pv i σ H → g (.str ⟨#[c]⟩) σ H fun σ2 H2 => tb { D with nx := Pv (i + 1), ct := Pv (i + 1), bk := D.nx } σ2 H2) (hd : ∀ σ H, Pv x.cps.size σ H → D.nx σ H) :
    ∃ W : Nat → Nat → L2.St → Hp → Prop, (∃ m, W 0 m σ H) ∧ ∀ i m σ H, W i m σ H →
      ((Its x).stop i H ∧ D.nx σ H) ∨ ((Its x).go i H ∧ ∃ N : L2.St → Hp → Prop, (∀ σ' H', N σ' H' → ∃ m', m' < m ∧ W (i + 1) m' σ' H') ∧ ∀ v H', (Its x).yld i H v H' → g v σ H' fun σ2 H2 => tb { D with nx := N, ct := N, bk := D.nx } σ2 H2) := by
  refine ⟨fun i m σ H => m = x.cps.size - i ∧ i ≤ x.cps.size ∧ Pv i σ H, ⟨x.cps.size, by simp, Nat.zero_le _, h0⟩, ?_⟩
  rintro i m σ H ⟨rfl, hi, p⟩
  by_cases hlt : i < x.cps.size
  · refine .inr ⟨hlt, Pv (i + 1), fun σ' H' p' => ⟨x.cps.size - (i + 1), by omega, rfl, hlt, p'⟩, fun v H' y => ?_⟩
    obtain ⟨rfl, c, ec, rfl⟩ := y
    exact hs i c σ _ ec p
  · have e : i = x.cps.size := by omega
    subst e
    exact .inl ⟨Nat.le_refl _, hd σ H p⟩
theorem lc_str {x : Str} {g : TG} {tt : TT} {te : TE} {vs : List Nat} {σ : L2.St} {H1 : Hp} {D : Addr} {Qd : Hp → Prop} (Pv : Nat → Hp → Prop) (h0 : Pv 0 (upd H1 D (.lst [])))
    (hs : ∀ i c H, x.cps[i]? = some c → Pv i H → g (.str ⟨#[c]⟩) (wipe σ vs) H fun σ2 H2 => wipe σ2 vs = wipe σ vs ∧ tt σ2 H2 fun b H3 =>
      if b = true then te σ2 H3 fun y H4 => ∃ acc, H4 D = some (.lst acc) ∧ acc.length < sizeLine ∧ Pv (i + 1) (upd H4 D (.lst (acc ++ [y]))) else Pv (i + 1) H3) (hd : ∀ H, Pv x.cps.size H → Qd H) :
    ∃ W : Nat → Nat → Hp → Prop, (∃ m, W 0 m (upd H1 D (.lst []))) ∧ ∀ i m H, W i m H →
      ((Its x).stop i H ∧ Qd H) ∨ ((Its x).go i H ∧ ∃ Nx : Hp → Prop, (∀ H', Nx H' → ∃ m', m' < m ∧ W (i + 1) m' H') ∧ ∀ v H', (Its x).yld i H v H' → g v (wipe σ vs) H' fun σ2 H2 => wipe σ2 vs = wipe σ vs ∧ tt σ2 H2 fun b H3 =>
        if b = true then te σ2 H3 fun y H4 => ∃ acc, H4 D = some (.lst acc) ∧ acc.length < sizeLine ∧ Nx (upd H4 D (.lst (acc ++ [y]))) else Nx H3) := by
  refine ⟨fun i m H => m = x.cps.size - i ∧ i ≤ x.cps.size ∧ Pv i H, ⟨x.cps.size, by simp, Nat.zero_le _, h0⟩, ?_⟩
  rintro i m H ⟨rfl, hi, p⟩
  by_cases hlt : i < x.cps.size
  · refine .inr ⟨hlt, Pv (i + 1), fun H' p' => ⟨x.cps.size - (i + 1), by omega, rfl, hlt, p'⟩, fun v H' y => ?_⟩
    obtain ⟨rfl, c, ec, rfl⟩ := y
    exact hs i c _ ec p
  · have e : i = x.cps.size := by omega
    subst e
    exact .inl ⟨Nat.le_refl _, hd H p⟩
/-- a text times a number -/
theorem op_mul_str {X : Cx} : OpR X (binaryOp .Mult) (fun x y H Q => ∃ z n, x = .str z ∧ y = .int n ∧ 1 ≤ z.length ∧ 0 ≤ n ∧ (z.length : Int) * n ≤ 10000 ∧ Q (.str (Txt.mul z n)) H) := by
  intro pins s σ H x y v u Q I rx ry h
  obtain ⟨z, n, rfl, rfl, h1, h0, hz, q⟩ := h
  obtain ⟨t, rfl⟩ := rx
  obtain ⟨t', rfl⟩ := ry
  have hn : n ≤ 10000 := by
    have : (1 : Int) * n ≤ (z.length : Int) * n := Int.mul_le_mul_of_nonneg_right (by omega) h0
    omega
  have hl : (z.length : Int) ≤ 10000 ∨ n < 1 := by
    by_cases hn0 : n < 1
    · exact .inr hn0
    · left
      have : (z.length : Int) * 1 ≤ (z.length : Int) * n := Int.mul_le_mul_of_nonneg_left (by omega) (by omega)
      omega
  refine SB.mul ⟨?_, ?_, ?_⟩ (fun t' k => ⟨.str (Txt.mul z n), H, I.tok _, ⟨_, rfl⟩, q⟩)
  · rw [decide_eq_false (by omega), decide_eq_false (by omega)]
    rfl
  · intro a _ b
    have c : (2 ^ 63 - 1 : Int) / n ≥ (2 ^ 63 - 1 : Int) / 10000 := by
      have h3 : (2 ^ 63 - 1 : Int) / 10000 * n ≤ 2 ^ 63 - 1 := by
        have : (2 ^ 63 - 1 : Int) / 10000 * n ≤ (2 ^ 63 - 1 : Int) / 10000 * 10000 := Int.mul_le_mul_of_nonneg_left hn (by decide)
        have h4 : (2 ^ 63 - 1 : Int) / 10000 * 10000 ≤ 2 ^ 63 - 1 := by decide
        omega
      exact (Int.le_ediv_iff_mul_le (by omega)).mpr h3
    have d : (2 ^ 63 - 1 : Int) / 10000 ≥ 10001 := by decide
    omega
  · intro a _
    have e : ((z.length * n.toNat : Nat) : Int) = (z.length : Int) * n := by
      rw [Int.natCast_mul, Int.toNat_of_nonneg h0]
    have e2 : z.length * n.toNat ≤ 10000 := by omega
    show decide _ = false
    exact decide_eq_false (by
      have : sizeLine = 16777216 := rfl
      omega)
end Ow
namespace Ow
open PySem PySem.Spec PyProof.Rows L2 Tlz
/-- two data at x, y, comparable to depth n -/
structure Cp (K : PySem.W.Frag) (H : Hp) (n : Nat) (x y : V) (d e : PyData) : Prop where
  l : Dp K H x d
  r : Dp K H y e
  cl : d.canLay0 = true
  cr : e.canLay0 = true
  dl : d.depth ≤ n
  dr : e.depth ≤ n
  ok : okD n d e = true
  n60 : n ≤ 60
def rLtK (K : PySem.W.Frag) : R2 := fun x y H Q => ∃ n d e, Cp K H n x y d e ∧ Q (.bl (ltD n d e)) H
def rGtK (K : PySem.W.Frag) : R2 := fun x y H Q => ∃ n d e, Cp K H n x y d e ∧ Q (.bl (gtD n d e)) H
theorem op_ltK {X : Cx} {k : Nat} (hr : Room k X.A) : OpR X (compareOp .Lt) (rLtK X.K) := by
  intro pins s σ H x y v u Q I rx ry h
  obtain ⟨n, d, e, c, q⟩ := h
  obtain ⟨as, r1⟩ := Dp.reads I d x v c.l rx
  obtain ⟨bs, r2⟩ := Dp.reads I e y u c.r ry
  have hu := hr.units
  have c6 := c.n60
  exact rcLt n d e X.A s v u as bs r1 r2 c.cl c.cr c.dl c.ok (by omega) X.prog X.w X.xe (EP X pins σ Q) ⟨.bl _, H, I, rfl, q⟩
theorem op_gtK {X : Cx} {k : Nat} (hr : Room k X.A) : OpR X (compareOp .Gt) (rGtK X.K) := by
  intro pins s σ H x y v u Q I rx ry h
  obtain ⟨n, d, e, c, q⟩ := h
  obtain ⟨as, r1⟩ := Dp.reads I d x v c.l rx
  obtain ⟨bs, r2⟩ := Dp.reads I e y u c.r ry
  have hu := hr.units
  have c6 := c.n60
  exact rcGt n d e X.A s v u as bs r1 r2 c.cl c.cr c.dl c.ok (by omega) X.prog X.w X.xe (EP X pins σ Q) ⟨.bl _, H, I, rfl, q⟩
theorem shaped_of {d : PyData} {n : Nat} (c : d.canLay0 = true) (h : d.depth ≤ n) (hn : n ≤ 60) : SeqAt.shaped d = true := by
  unfold SeqAt.shaped
  rw [c, decide_eq_true (show d.depth ≤ 64 by omega)]
  rfl
end Ow
namespace K1
open PySem PySem.Spec PyProof.Rows L2 Ow Tlz
/-- the key of a value, as data -/
def vkD : V → PyData
  | .int i => .tuple [.int 0, .int i]
  | .str z => .tuple [.int 1, .str z]
  | _ => .none
def rkD (xs : List V) : PyData := .tuple (xs.map vkD)
def kD (s : Int) (n : Str) (row : List V) : PyData := .tuple [.int s, .str n, rkD row]
def kd2 (s : Int) (n : Str) : PyData := .tuple [.int s, .str n]
/-- the order o tells what <, == and > say of d and e -/
structure Agr (n : Nat) (d e : PyData) (o : Int) : Prop where
  lt : ltD n d e = decide (o < 0)
  eq : PyData.eqv d e = decide (o = 0)
  gt : gtD n d e = decide (0 < o)
theorem str_tri (x y : Str) : (x == y) = (!decide (x.cps.toList < y.cps.toList) && !decide (y.cps.toList < x.cps.toList)) := by
  by_cases h : x = y
  · subst h
    have n : ¬ x.cps.toList < x.cps.toList := List.lt_irrefl _
    simp [n]
  · have e : (x == y) = false := by simpa using h
    rw [e]
    symm
    rw [Bool.and_eq_false_iff]
    apply Classical.byContradiction
    intro z
    apply h
    have z1 : ¬ x.cps.toList < y.cps.toList := fun w => z (.inl (by rw [decide_eq_true w]; rfl))
    have z2 : ¬ y.cps.toList < x.cps.toList := fun w => z (.inr (by rw [decide_eq_true w]; rfl))
    have e2 : x.cps.toList = y.cps.toList := List.le_antisymm z2 z1
    cases x
    cases y
    simp only [Str.mk.injEq]
    exact Array.toList_inj.mp e2
theorem eqv_int (i j : Int) : PyData.eqv (.int i) (.int j) = (i == j) := by rw [PyData.eqv]
theorem eqv_str (x y : Str) : PyData.eqv (.str x) (.str y) = (x == y) := by rw [PyData.eqv]
theorem eqv_tup (xs ys : List PyData) : PyData.eqv (.tuple xs) (.tuple ys) = PyData.eqvAll xs ys := by rw [PyData.eqv]
theorem eqv_cons (x y : PyData) (xs ys : List PyData) : PyData.eqvAll (x :: xs) (y :: ys) = (PyData.eqv x y && PyData.eqvAll xs ys) := by rw [PyData.eqvAll]
theorem eqv_nil : PyData.eqvAll [] [] = true := by rw [PyData.eqvAll]
theorem eqv_nc (y : PyData) (ys : List PyData) : PyData.eqvAll [] (y :: ys) = false := by rw [PyData.eqvAll]
theorem eqv_cn (x : PyData) (xs : List PyData) : PyData.eqvAll (x :: xs) [] = false := by rw [PyData.eqvAll]
theorem int_tri (i j : Int) : (i == j) = (!decide (i < j) && !decide (j < i)) := by
  by_cases h : i = j
  · subst h; simp
  · have e : (i == j) = false := by simpa using h
    rw [e]
    rcases Int.lt_or_gt_of_ne h with z | z
    · simp [z]
    · simp [z]
/-- the keys of two values -/
theorem vk_all {x y : V} (sx : Scal x) (sy : Scal y) (n : Nat) : okD (n + 1) (vkD x) (vkD y) = true ∧ ltD (n + 1) (vkD x) (vkD y) = firstV x y ∧ gtD (n + 1) (vkD x) (vkD y) = firstV y x ∧
    PyData.eqv (vkD x) (vkD y) = (!firstV x y && !firstV y x) := by
  rcases sx with ⟨i, rfl, _⟩ | ⟨x, rfl, _⟩ <;> rcases sy with ⟨j, rfl, _⟩ | ⟨y, rfl, _⟩
  · simp only [vkD, okD, ltD, gtD, okL, ltL, gtL, eqv_int, eqv_tup, eqv_cons, eqv_nil, firstV, beq_self_eq_true, if_true, Bool.true_and, Bool.and_true, ← int_tri]
    cases h : (i == j) with
    | true =>
      have e : i = j := by simpa using h
      subst e
      simp
    | false => simp
  · have e : ((0 : Int) == 1) = false := by decide
    simp only [vkD, okD, ltD, gtD, okL, ltL, gtL, eqv_int, eqv_tup, eqv_cons, eqv_nil, firstV, e, if_false, Bool.false_and, Bool.false_eq_true]
    decide
  · have e : ((1 : Int) == 0) = false := by decide
    simp only [vkD, okD, ltD, gtD, okL, ltL, gtL, eqv_int, eqv_tup, eqv_cons, eqv_nil, firstV, e, if_false, Bool.false_and, Bool.false_eq_true]
    decide
  · simp only [vkD, okD, ltD, gtD, okL, ltL, gtL, eqv_int, eqv_str, eqv_tup, eqv_cons, eqv_nil, firstV, beq_self_eq_true, if_true, Bool.true_and, Bool.and_true, ← str_tri]
    cases h : (x == y) with
    | true =>
      have e : x = y := by simpa using h
      subst e
      have n : ¬ x.cps.toList < x.cps.toList := List.lt_irrefl _
      simp [n]
    | false => simp
theorem first_asym {x y : V} (sx : Scal x) (sy : Scal y) (h : firstV x y = true) : firstV y x = false := by
  rcases sx with ⟨i, rfl, _⟩ | ⟨x, rfl, _⟩ <;> rcases sy with ⟨j, rfl, _⟩ | ⟨y, rfl, _⟩
  · have h' : i < j := of_decide_eq_true h
    exact decide_eq_false (by omega)
  · rfl
  · exact absurd (show false = true from h) Bool.false_ne_true
  · have h' : x.cps.toList < y.cps.toList := of_decide_eq_true h
    exact decide_eq_false (List.lt_asymm h')
/-- the keys of two rows -/
theorem rk_all (n : Nat) : ∀ (xs ys : List V), (∀ x ∈ xs, Scal x) → (∀ y ∈ ys, Scal y) →
    okL (okD (n + 1)) (xs.map vkD) (ys.map vkD) = true ∧ ltL (ltD (n + 1)) (xs.map vkD) (ys.map vkD) = decide (orderV xs ys < 0) ∧
    gtL (gtD (n + 1)) (xs.map vkD) (ys.map vkD) = decide (0 < orderV xs ys) ∧ PyData.eqvAll (xs.map vkD) (ys.map vkD) = decide (orderV xs ys = 0)
  | [], [], _, _ => ⟨rfl, rfl, rfl, by rw [List.map_nil, eqv_nil]; rfl⟩
  | [], y :: ys, _, _ => ⟨rfl, rfl, rfl, by rw [List.map_nil, List.map_cons, eqv_nc]; rfl⟩
  | x :: xs, [], _, _ => ⟨rfl, rfl, rfl, by rw [List.map_nil, List.map_cons, eqv_cn]; rfl⟩
  | x :: xs, y :: ys, hx, hy => by
    have sx := hx x List.mem_cons_self
    have sy := hy y List.mem_cons_self
    obtain ⟨a1, a2, a3, a4⟩ := vk_all sx sy n
    obtain ⟨b1, b2, b3, b4⟩ := rk_all n xs ys (fun z m => hx z (List.mem_cons_of_mem _ m)) (fun z m => hy z (List.mem_cons_of_mem _ m))
    rw [List.map_cons, List.map_cons]
    unfold okL ltL gtL orderV
    rw [eqv_cons, a4, a2, a3, a1, b1, b2, b3, b4]
    cases h : firstV x y with
    | true =>
      have h2 := first_asym sx sy h
      rw [h2]
      simp
    | false =>
      cases h2 : firstV y x with
      | true => simp
      | false => simp
theorem Agr.row {xs ys : List V} (hx : ∀ x ∈ xs, Scal x) (hy : ∀ y ∈ ys, Scal y) : Agr 2 (rkD xs) (rkD ys) (orderV xs ys) ∧ okD 2 (rkD xs) (rkD ys) = true := by
  obtain ⟨b1, b2, b3, b4⟩ := rk_all 0 xs ys hx hy
  exact ⟨⟨b2, (eqv_tup _ _).trans b4, b3⟩, b1⟩
theorem Agr.one {x y : V} (sx : Scal x) (sy : Scal y) : Agr 1 (vkD x) (vkD y) (orderV [x] [y]) ∧ okD 1 (vkD x) (vkD y) = true := by
  obtain ⟨a1, a2, a3, a4⟩ := vk_all sx sy 0
  have e : orderV [x] [y] = if firstV x y = true then -1 else if firstV y x = true then 1 else 0 := by
    unfold orderV
    rfl
  rw [e]
  refine ⟨⟨?_, ?_, ?_⟩, a1⟩
  · rw [a2]
    cases h : firstV x y with
    | true => rfl
    | false => cases h2 : firstV y x with
      | true => rfl
      | false => rfl
  · rw [a4]
    cases h : firstV x y with
    | true => rw [first_asym sx sy h]; rfl
    | false => cases h2 : firstV y x with
      | true => rfl
      | false => rfl
  · rw [a3]
    cases h : firstV x y with
    | true => rw [first_asym sx sy h]; rfl
    | false => cases h2 : firstV y x with
      | true => rfl
      | false => rfl
/-- the order of two keys, as the law reckons it -/
def keyOrd (s : Int) (n : Str) (row : List V) (s' : Int) (n' : Str) (row' : List V) : Int :=
  if (!PyData.eqv (kd2 s n) (kd2 s' n')) = true then (if ltD 1 (kd2 s n) (kd2 s' n') = true then -1 else 1) else orderV row row'
theorem Agr.key {s s' : Int} {n n' : Str} {xs ys : List V} (hx : ∀ x ∈ xs, Scal x) (hy : ∀ y ∈ ys, Scal y) :
    Agr 3 (kD s n xs) (kD s' n' ys) (keyOrd s n xs s' n' ys) ∧ okD 3 (kD s n xs) (kD s' n' ys) = true := by
  obtain ⟨⟨r1, r2, r3⟩, r4⟩ := Agr.row hx hy
  have e2 : PyData.eqv (kd2 s n) (kd2 s' n') = ((s == s') && (n == n')) := by
    unfold kd2
    rw [eqv_tup, eqv_cons, eqv_cons, eqv_nil, eqv_int, eqv_str, Bool.and_true]
  have l2 : ltD 1 (kd2 s n) (kd2 s' n') = if (s == s') = true then (if (n == n') = true then false else decide (n.cps.toList < n'.cps.toList)) else decide (s < s') := by
    simp only [kd2, ltD, ltL, eqv_int, eqv_str]
  have e3 : PyData.eqv (kD s n xs) (kD s' n' ys) = ((s == s') && ((n == n') && PyData.eqv (rkD xs) (rkD ys))) := by
    unfold kD
    rw [eqv_tup, eqv_cons, eqv_cons, eqv_cons, eqv_nil, eqv_int, eqv_str, Bool.and_true]
  have l3 : ltD 3 (kD s n xs) (kD s' n' ys) = if (s == s') = true then (if (n == n') = true then (if PyData.eqv (rkD xs) (rkD ys) = true then false else ltD 2 (rkD xs) (rkD ys)) else decide (n.cps.toList < n'.cps.toList)) else decide (s < s') := by
    simp only [kD, ltD, ltL, eqv_int, eqv_str]
  have g3 : gtD 3 (kD s n xs) (kD s' n' ys) = if (s == s') = true then (if (n == n') = true then (if PyData.eqv (rkD xs) (rkD ys) = true then false else gtD 2 (rkD xs) (rkD ys)) else decide (n'.cps.toList < n.cps.toList)) else decide (s' < s) := by
    simp only [kD, gtD, gtL, eqv_int, eqv_str]
  have o3 : okD 3 (kD s n xs) (kD s' n' ys) = if (s == s') = true then (if (n == n') = true then (if PyData.eqv (rkD xs) (rkD ys) = true then true else okD 2 (rkD xs) (rkD ys)) else true) else true := by
    simp only [kD, okD, okL, eqv_int, eqv_str]
  have it := int_tri s s'
  have st := str_tri n n'
  unfold keyOrd
  rw [e2, l2]
  refine ⟨⟨?_, ?_, ?_⟩, ?_⟩
  · rw [l3]
    cases h1 : (s == s') with
    | false => cases h : decide (s < s') <;> simp
    | true =>
      cases h2 : (n == n') with
      | false => cases h : decide (n.cps.toList < n'.cps.toList) <;> simp
      | true =>
        rw [r1, r2]
        by_cases z : orderV xs ys = 0
        · simp [z]
        · simp [z]
  · rw [e3]
    cases h1 : (s == s') with
    | false => cases h : decide (s < s') <;> simp
    | true =>
      cases h2 : (n == n') with
      | false => cases h : decide (n.cps.toList < n'.cps.toList) <;> simp
      | true => rw [r2]; simp
  · rw [g3]
    cases h1 : (s == s') with
    | false =>
      rw [h1] at it
      cases h : decide (s < s') with
      | false =>
        rw [h] at it
        simp at it
        simp [it]
      | true =>
        have z : s < s' := of_decide_eq_true h
        simp
        omega
    | true =>
      cases h2 : (n == n') with
      | false =>
        rw [h2] at st
        cases h : decide (n.cps.toList < n'.cps.toList) with
        | false =>
          rw [h] at st
          simp at st
          simp [st]
        | true =>
          have z : n.cps.toList < n'.cps.toList := of_decide_eq_true h
          have z2 := List.lt_asymm z
          simp [z2]
      | true =>
        rw [r3, r2]
        by_cases z : orderV xs ys = 0
        · simp [z]
        · simp [z]
  · rw [o3, r4]
    split
    · split
      · split <;> rfl
      · rfl
    · rfl
end K1
namespace K1
open PySem PySem.Spec PyProof.Rows L2 Ow Tlz
/-! data without lists -/
mutual
def noL : PyData → Bool
  | .list _ => false
  | .tuple xs => noLs xs
  | _ => true
def noLs : List PyData → Bool
  | [] => true
  | x :: xs => noL x && noLs xs
end
mutual
theorem Dp.tk {K : PySem.W.Frag} {H H' : Hp} (t : Tk K H H') : ∀ (d : PyData) (v : V), noL d = true → Dp K H v d → Dp K H' v d
  | .none, _, _, .non => .non
  | .bool b, _, _, .bl _ => .bl b
  | .int i, _, _, .int _ => .int i
  | .str x, _, _, .str _ => .str x
  | .list _, _, h, _ => absurd h (by rw [noL]; exact Bool.false_ne_true)
  | .tuple xs, _, h, .tup s a => .tup (t _ _ s) (DpAll.tk t xs _ (by rw [noL] at h; exact h) a)
theorem DpAll.tk {K : PySem.W.Frag} {H H' : Hp} (t : Tk K H H') : ∀ (ds : List PyData) (vs : List V), noLs ds = true → DpAll K H vs ds → DpAll K H' vs ds
  | [], _, _, .nil => .nil
  | d :: ds, _, h, .cons a b => by
    rw [noLs, Bool.and_eq_true] at h
    exact .cons (Dp.tk t d _ h.1 a) (DpAll.tk t ds _ h.2 b)
end
theorem DpAll.snoc {K : PySem.W.Frag} {H : Hp} : ∀ {vs : List V} {ds : List PyData} {v : V} {d : PyData}, DpAll K H vs ds → Dp K H v d → DpAll K H (vs ++ [v]) (ds ++ [d])
  | _, _, _, _, .nil, h => .cons h .nil
  | _, _, _, _, .cons a b, h => .cons a (DpAll.snoc b h)
theorem noL_vk (v : V) : noL (vkD v) = true := by
  cases v <;> simp [vkD, noL, noLs]
theorem noLs_vk : ∀ xs : List V, noLs (xs.map vkD) = true
  | [] => by simp [noLs]
  | x :: xs => by rw [List.map_cons, noLs, noL_vk, noLs_vk xs]; rfl
/-- strings of values can be laid -/
theorem Pr.ok {z : Str} (h : Pr z) : PyData.canLay0 (.str z) = true := by
  rw [PyData.canLay0]
  show z.cps.all (fun c => decide (c < 0x110000)) = true
  rw [Array.all_eq_true]
  intro i hi
  have := h z.cps[i] (by simp)
  exact decide_eq_true (by omega)
theorem lay_vk {v : V} (h : Scal v) : (vkD v).canLay0 = true := by
  rcases h with ⟨i, rfl, _⟩ | ⟨z, rfl, p, _⟩
  · simp [vkD, PyData.canLay0, PyData.canLayAll0]
  · have := p.ok
    simp [vkD, PyData.canLay0, PyData.canLayAll0] at this ⊢
    exact this
theorem lays_vk : ∀ {xs : List V}, (∀ x ∈ xs, Scal x) → PyData.canLayAll0 (xs.map vkD) = true
  | [], _ => by simp [PyData.canLayAll0]
  | x :: xs, h => by
    rw [List.map_cons, PyData.canLayAll0, lay_vk (h x List.mem_cons_self), lays_vk fun z m => h z (List.mem_cons_of_mem _ m)]
    rfl
theorem deep_vk (v : V) : (vkD v).depth ≤ 1 := by
  cases v <;> simp [vkD, PyData.depth, PyData.depthAll]
theorem deeps_vk : ∀ xs : List V, PyData.depthAll (xs.map vkD) ≤ 1
  | [] => by simp [PyData.depthAll]
  | x :: xs => by
    rw [List.map_cons, PyData.depthAll]
    exact Nat.max_le.mpr ⟨deep_vk x, deeps_vk xs⟩
theorem lay_rk {xs : List V} (h : ∀ x ∈ xs, Scal x) : (rkD xs).canLay0 = true := by
  unfold rkD
  rw [PyData.canLay0]
  exact lays_vk h
theorem deep_rk (xs : List V) : (rkD xs).depth ≤ 2 := by
  unfold rkD
  rw [PyData.depth]
  have := deeps_vk xs
  omega
theorem lay_k {s : Int} {n : Str} {xs : List V} (p : Pr n) (h : ∀ x ∈ xs, Scal x) : (kD s n xs).canLay0 = true := by
  have a := p.ok
  have b := lay_rk h
  unfold kD
  rw [PyData.canLay0, PyData.canLayAll0, PyData.canLayAll0, PyData.canLayAll0, PyData.canLayAll0, a, b]
  simp [PyData.canLay0]
theorem deep_k (s : Int) (n : Str) (xs : List V) : (kD s n xs).depth ≤ 3 := by
  have := deep_rk xs
  unfold kD
  rw [PyData.depth, PyData.depthAll, PyData.depthAll, PyData.depthAll, PyData.depthAll, PyData.depth, PyData.depth]
  omega
theorem noL_rk (xs : List V) : noL (rkD xs) = true := by
  unfold rkD
  rw [noL]
  exact noLs_vk xs
theorem noL_k (s : Int) (n : Str) (xs : List V) : noL (kD s n xs) = true := by
  unfold kD
  rw [noL, noLs, noLs, noLs, noLs, noL_rk]
  simp [noL]

/-- x is an item with the key s, n, row -/
def ItemAt (K : PySem.W.Frag) (H : Hp) (x : V) (s : Int) (n : Str) (row : List V) : Prop := ∃ (a : Addr) (xs : List V), x = .ref a ∧ SqT K H a xs ∧
  Pr n ∧ (∀ y ∈ row, Scal y) ∧ row.length ≤ 1000 ∧
  ((∃ rest, xs = .str "relation" :: .str n :: rest ∧ s = 0 ∧ row = []) ∨ (∃ rest, xs = .str "structure" :: .str n :: rest ∧ s = 2 ∧ row = []) ∨
   (∃ rest, xs = .str "layout" :: .str n :: rest ∧ s = 3 ∧ row = []) ∨ ∃ r : Addr, xs = [.str "fact", .str n, .ref r] ∧ s = 1 ∧ SqT K H r row)
def KeyAt (K : PySem.W.Frag) (H : Hp) (x : V) (s : Int) (n : Str) (row : List V) : Prop := ∃ a r : Addr, x = .ref a ∧
  SqT K H a [.int s, .str n, .ref r] ∧ SqT K H r row ∧ Pr n ∧ (∀ y ∈ row, Scal y) ∧ row.length ≤ 1000
theorem ItemAt.tk {K : PySem.W.Frag} {H H' : Hp} {x : V} {s : Int} {n : Str} {row : List V} (t : Tk K H H') (h : ItemAt K H x s n row) : ItemAt K H' x s n row := by
  obtain ⟨a, xs, e, h1, h2, h3, h4, h5⟩ := h
  refine ⟨a, xs, e, t _ _ h1, h2, h3, h4, ?_⟩
  rcases h5 with h | h | h | ⟨r, e1, e2, e3⟩
  · exact .inl h
  · exact .inr (.inl h)
  · exact .inr (.inr (.inl h))
  · exact .inr (.inr (.inr ⟨r, e1, e2, t _ _ e3⟩))
theorem KeyAt.tk {K : PySem.W.Frag} {H H' : Hp} {x : V} {s : Int} {n : Str} {row : List V} (t : Tk K H H') (h : KeyAt K H x s n row) : KeyAt K H' x s n row := by
  obtain ⟨a, r, e, h1, h2, h3⟩ := h
  exact ⟨a, r, e, t _ _ h1, t _ _ h2, h3⟩
def spLKey (K : PySem.W.Frag) : Sp := fun vs H Q _ => ∃ (x : V) (s : Int) (n : Str) (row : List V), vs = [x] ∧ ItemAt K H x s n row ∧
  Mak H Q fun y H' => KeyAt K H' y s n row
def spVKey (K : PySem.W.Frag) : Sp := fun vs H Q _ => ∃ x : V, vs = [x] ∧ Scal x ∧ Mak H Q fun y H' => Dp K H' y (vkD x)
def spRKey (K : PySem.W.Frag) : Sp := fun vs H Q _ => ∃ (a : Addr) (xs : List V), vs = [.ref a] ∧ SqT K H a xs ∧ (∀ x ∈ xs, Scal x) ∧ xs.length ≤ 1000 ∧
  Mak H Q fun y H' => Dp K H' y (rkD xs)
def spKOrd (K : PySem.W.Frag) : Sp := fun vs H Q _ => ∃ (x : V) (s : Int) (n : Str) (row : List V), vs = [x] ∧ KeyAt K H x s n row ∧
  Mak H Q fun y H' => Dp K H' y (kD s n row)
def spLOrd (K : PySem.W.Frag) : Sp := fun vs H Q _ => ∃ (x y : V) (s s' : Int) (n n' : Str) (row row' : List V), vs = [x, y] ∧ KeyAt K H x s n row ∧ KeyAt K H y s' n' row' ∧
  Mak H Q fun z _ => z = .int (keyOrd s n row s' n' row')
def spItem (K : PySem.W.Frag) : Sp := fun vs H Q _ => ∃ p d : Addr, vs = [.ref p] ∧ Rng d H p ∧
  Drw p d H Q fun x H' => ∃ (s : Int) (n : Str) (row : List V), ItemAt K H' x s n row
def spAgrees (K : PySem.W.Frag) : Sp := fun vs H Q _ => ∃ (x y : V) (n : Nat) (ds es : List PyData) (o : Int), vs = [x, y, .int o] ∧
  Cp K H n x y (.tuple ds) (.tuple es) ∧ Agr n (.tuple ds) (.tuple es) o ∧ Mak H Q fun z _ => z = .bl true
/-- two equal data without lists, n deep at most -/
def spSame (K : PySem.W.Frag) (n : Nat) : Sp := fun vs H Q _ => ∃ (x y : V) (d : PyData), vs = [x, y] ∧ Dp K H x d ∧ Dp K H y d ∧ d.canLay0 = true ∧ noL d = true ∧
  d.depth ≤ n ∧ n ≤ 50 ∧ Mak H Q fun z _ => z = .bl true
end K1
namespace K1
open PySem PySem.Spec PyProof.Rows L2 Ow
/-! the bytes of data -/
def numB (n : Nat) : List Int := if n ≤ 127 then [(n : Int)] else (128 + (n : Int) % 128) :: numB (n / 128)
termination_by n
decreasing_by omega
theorem numB_small {n : Nat} (h : n ≤ 127) : numB n = [(n : Int)] := by rw [numB, if_pos h]
theorem numB_big {n : Nat} (h : ¬ n ≤ 127) : numB n = (128 + (n : Int) % 128) :: numB (n / 128) := by rw [numB, if_neg h]
theorem numB_len : ∀ (k n : Nat), n < 128 ^ k → (numB n).length ≤ k + 1
  | 0, n, h => by
    rw [numB_small (by simp at h; omega)]; simp
  | k + 1, n, h => by
    by_cases e : n ≤ 127
    · rw [numB_small e]; simp
    · rw [numB_big e, List.length_cons]
      have h2 : n / 128 < 128 ^ k := by
        rw [Nat.pow_succ] at h
        exact Nat.div_lt_of_lt_mul (by rw [Nat.mul_comm]; exact h)
      have := numB_len k (n / 128) h2
      omega
theorem numB_20 {n : Nat} (h : n < 2 ^ 140) : (numB n).length ≤ 21 := numB_len 20 n (by
  have : (128 : Nat) ^ 20 = 2 ^ 140 := by decide
  omega)
def cpB (z : Str) : List Int := z.cps.toList.map fun (c : Nat) => (c : Int)
theorem cpB_len (z : Str) : (cpB z).length = z.length := by
  unfold cpB
  rw [List.length_map, Array.length_toList]
  rfl
def strB (z : Str) : List Int := numB z.length ++ cpB z
def intB (i : Int) : List Int := (if i < 0 then 1 else 0) :: numB i.natAbs
def valB : V → List Int
  | .int i => 0 :: intB i
  | .str z => 1 :: strB z
  | _ => []
def listB (xs : List (List Int)) : List Int := numB xs.length ++ xs.flatten
def rowB (xs : List V) : List Int := listB (xs.map valB)
theorem strB_len {z : Str} (h : z.length ≤ 200) : (strB z).length ≤ 221 := by
  unfold strB
  rw [List.length_append, cpB_len]
  have := numB_20 (n := z.length) (Nat.lt_of_le_of_lt h (by decide))
  omega
theorem valB_len {v : V} (h : Scal v) : (valB v).length ≤ 222 := by
  rcases h with ⟨i, rfl, h⟩ | ⟨z, rfl, _, h⟩
  · unfold valB intB
    rw [List.length_cons, List.length_cons]
    have := numB_20 h
    omega
  · unfold valB
    rw [List.length_cons]
    have := strB_len h
    omega
theorem flat_len : ∀ {xs : List (List Int)} {b : Nat}, (∀ x ∈ xs, x.length ≤ b) → xs.flatten.length ≤ xs.length * b
  | [], _, _ => by simp
  | x :: xs, b, h => by
    have h1 := h x List.mem_cons_self
    have h2 := flat_len (xs := xs) (b := b) fun y m => h y (List.mem_cons_of_mem _ m)
    rw [List.flatten_cons, List.length_append, List.length_cons, Nat.succ_mul]
    omega
theorem listB_len {xs : List (List Int)} {b : Nat} (h : ∀ x ∈ xs, x.length ≤ b) (l : xs.length ≤ 1000) : (listB xs).length ≤ 21 + xs.length * b := by
  unfold listB
  rw [List.length_append]
  have := flat_len h
  have := numB_20 (n := xs.length) (Nat.lt_of_le_of_lt l (by decide))
  omega
theorem rowB_len {xs : List V} (h : ∀ x ∈ xs, Scal x) (l : xs.length ≤ 10) : (rowB xs).length ≤ 2300 := by
  have h1 := listB_len (xs := xs.map valB) (b := 222) (fun y m => by
    obtain ⟨x, mx, rfl⟩ := List.mem_map.mp m
    exact valB_len (h x mx)) (by rw [List.length_map]; omega)
  unfold rowB
  rw [List.length_map] at h1
  omega
/-! rows in sectors -/
structure Pk where
  S : List (List Int)
  cur : List Int
  cnt : Int
def pk0 : Pk := ⟨[], [], 0⟩
def pkS (p : Pk) (c : List Int) : Pk := if p.cur.length + c.length > 63 then ⟨p.S ++ [p.cnt :: p.cur], c, 1⟩ else ⟨p.S, p.cur ++ c, p.cnt + 1⟩
def pkAll (p : Pk) : List (List Int) := if p.cnt > 0 then p.S ++ [p.cnt :: p.cur] else p.S
def padS (s : List Int) : List Int := s ++ List.replicate (64 - s.length) 0
def pkF (cs : List (List Int)) : Pk := cs.foldl pkS pk0
def packO (cs : List (List Int)) : Option (List (List Int)) :=
  if cs.all (fun c => decide (c.length ≤ 63)) = true then some ((pkAll (pkF cs)).map padS) else none
structure PkOk (n : Nat) (p : Pk) : Prop where
  z : p.cnt = 0 → p.S = [] ∧ p.cur = []
  nn : 0 ≤ p.cnt
  l : p.S.length + (if p.cnt > 0 then 1 else 0) ≤ n
  c : p.cur.length ≤ 63
  s : ∀ x ∈ p.S, x.length ≤ 64 ∧ x ≠ []
theorem pk0_ok : PkOk 0 pk0 := ⟨fun _ => ⟨rfl, rfl⟩, Int.le_refl _, by simp [pk0], by simp [pk0], fun _ h => nomatch h⟩
theorem pkS_ok {n : Nat} {p : Pk} {c : List Int} (h : PkOk n p) (hc : c.length ≤ 63) : PkOk (n + 1) (pkS p c) := by
  have h1 := h.z; have h2 := h.nn; have h3 := h.l; have h4 := h.c; have h5 := h.s
  unfold pkS
  split
  · rename_i e
    have e0 : p.cnt ≠ 0 := fun z => by
      rw [(h1 z).2] at e
      simp at e
      omega
    have e1 : p.cnt > 0 := by omega
    rw [if_pos e1] at h3
    refine ⟨fun z => ?_, ?_, ?_, hc, fun x m => ?_⟩
    · have z' : (1 : Int) = 0 := z
      omega
    · show (0 : Int) ≤ 1
      decide
    · show (p.S ++ [p.cnt :: p.cur]).length + (if (1 : Int) > 0 then 1 else 0) ≤ n + 1
      rw [List.length_append, if_pos (by decide)]
      simp
      omega
    · rcases List.mem_append.mp m with m | m
      · exact h5 x m
      · rw [List.mem_singleton.mp m, List.length_cons]
        exact ⟨by omega, by simp⟩
  · rename_i e
    refine ⟨fun z => ?_, ?_, ?_, ?_, h5⟩
    · have z' : p.cnt + 1 = 0 := z
      omega
    · show 0 ≤ p.cnt + 1
      omega
    · show p.S.length + (if p.cnt + 1 > 0 then 1 else 0) ≤ n + 1
      rw [if_pos (by omega)]
      split at h3
      · omega
      · have z : p.cnt = 0 := by omega
        rw [(h1 z).1]
        simp
    · show (p.cur ++ c).length ≤ 63
      rw [List.length_append]
      omega
theorem pkF_ok : ∀ (cs : List (List Int)) (n : Nat) (p : Pk), PkOk n p → (∀ c ∈ cs, c.length ≤ 63) → PkOk (n + cs.length) (cs.foldl pkS p)
  | [], n, p, h, _ => h
  | c :: cs, n, p, h, hc => by
    have := pkF_ok cs (n + 1) (pkS p c) (pkS_ok h (hc c List.mem_cons_self)) fun x m => hc x (List.mem_cons_of_mem _ m)
    rw [List.foldl_cons, List.length_cons, Nat.add_comm cs.length 1, ← Nat.add_assoc]
    exact this
/-! the bucket -/
def buk (bs : List Int) : Int := bs.foldl (fun h b => 31 * h + b + 1) 0
theorem buk_mod (m : Int) : ∀ (bs : List Int) (h g : Int), g = h % m → bs.foldl (fun g b => (31 * g + b + 1) % m) g = (bs.foldl (fun h b => 31 * h + b + 1) h) % m
  | [], h, g, e => e
  | b :: bs, h, g, e => by
    rw [List.foldl_cons, List.foldl_cons]
    refine buk_mod m bs _ _ ?_
    rw [e]
    have h1 : 31 * (h % m) + b + 1 = 31 * (h % m) + (b + 1) := by omega
    have h2 : 31 * h + b + 1 = 31 * h + (b + 1) := by omega
    rw [h1, h2, Int.add_emod, Int.mul_emod, Int.emod_emod_of_dvd _ (Int.dvd_refl m), ← Int.mul_emod, ← Int.add_emod]
end K1
namespace K1
open PySem PySem.Spec PyProof.Rows L2 Ow
/-! tuples whose object is known: their making, slices and methods -/
def tTupF (t : TA) : TE := fun σ H Q => t σ H fun xs H1 => xs.length ≤ sizeLine ∧ ∀ p o, H1 p = none → o.dict = none → o.cls = .type "tuple" → Q (.ref p) (upd H1 p (.frz o (.tup xs)))
theorem pe_tupF {X : Cx} {es : List Expr} {t : TA} {pos : Pos} {x1} (h : PA X es t) : PE X (.Tuple es x1 pos) (tTupF t) := by
  refine ⟨fun pins s σ H Q I hq => ?_⟩
  refine wpAny_Tuple_spliced (thn (h.run pos pins s σ H _ I hq) fun us s1 ⟨xs, H1, I1, r, z, q⟩ => ⟨by rw [← r.length]; exact z, ?_⟩)
  have hf : H1 s1.heap.objs.size = none := I1.hok.fresh (Nat.le_refl _)
  refine ⟨.ref s1.heap.objs.size, upd H1 s1.heap.objs.size (.frz { cls := .type "tuple", data := .seq us.toArray } (.tup xs)), I1.laid (t' := s1.toks) (fun b u e => Heap.get?_push_of_some _ e) (Nat.le_refl _) ?_, rfl, q _ _ hf rfl rfl⟩
  exact ⟨Heap.get?_push_size _ rfl, z, us, r, ⟨_, Heap.get?_push_size _ rfl, rfl, _, rfl⟩⟩
def rSlF : V → Option Int → Option Int → Hp → VK → Prop := fun x lo hi H Q => ∃ a xs, x = .ref a ∧ FT H a xs ∧ ∀ c H', FT H' c (cutV xs lo hi) → Same H H' → Q (.ref c) H'
theorem sl_tupF {X : Cx} : SlR X rSlF := by
  intro pins s σ H x v vl vu lo hi sl Q I rx hs pl pu h
  obtain ⟨a, xs, rfl, hx, q⟩ := h
  cases rx
  obtain ⟨its, r, ht, hz⟩ := I.tuple (hx.sq (K := X.K))
  have hlen : its.toArray.size = xs.length := by rw [List.size_toArray]; exact r.length.symm
  refine ⟨"tuple", _, PyProof.Rows.slot_tuple_getitem.lookup, ht.typeIs, ?_⟩
  by_cases hw : HT.sIx xs.length 0 lo = 0 ∧ HT.sIx xs.length xs.length hi = xs.length
  · have e : cutV xs lo hi = xs := by
      unfold cutV
      rw [hw.1, hw.2, List.drop_zero, Nat.sub_zero, List.take_length]
    exact getItem_tuple_whole ht hs pl pu (by rw [hlen]; exact hw) ⟨.ref a, H, I, rfl, q a H (by rw [e]; exact hx) (Same.refl _)⟩
  · refine HT.getItem_tuple_cut ht hs pl pu (by rw [hlen]; exact hw) ?_ (by rw [hlen]; exact hz)
    rw [hlen]
    have hf := I.hok.fresh (Nat.le_refl s.heap.objs.size)
    refine ⟨.ref s.heap.objs.size, _, I.laid (t' := s.toks) (o := .frz { cls := .type "tuple", data := .seq ((its.toArray.toList.drop (HT.sIx xs.length 0 lo)).take (HT.sIx xs.length xs.length hi - HT.sIx xs.length 0 lo)).toArray } (.tup (cutV xs lo hi))) (fun b ob q => Heap.get?_push_of_some _ q) (Nat.le_refl _) ?_, rfl, q _ _ ⟨_, upd_same, ?_, ?_⟩ (Same.new hf)⟩
    · exact ⟨Heap.get?_push_size _ rfl, Nat.le_trans (cutV_length xs lo hi) hz, _, (r.drop (HT.sIx xs.length 0 lo)).take (HT.sIx xs.length xs.length hi - HT.sIx xs.length 0 lo), IsTup.new _ _⟩
    · rfl
    · rfl
def tBMT (r : V → List V → Hp → VK → Prop) (to : TE) (t : TA) : TE := fun σ H Q => to σ H fun x H1 => (∃ p ys, x = .ref p ∧ FT H1 p ys) ∧ t σ H1 fun xs H2 => r x xs H2 Q
theorem pe_bmT {X : Cx} {o e : Expr} {es : List Expr} {to : TE} {t : TA} {name : Str} {apos cpos : Pos} {id : String} {r : V → List V → Hp → VK → Prop}
    (pa : PlainAttrs "tuple") (slot : Slot "tuple" name id) (hty : typeOf (.builtin id) = pure (.type "method_descriptor")) (hm : MtR X id r) (ho : PE X o to) (ha : PA X (e :: es) t)
    (hbase : attributeBase o name X.env (eval o X.env) = eval o X.env := by rfl)
    (hfew : ((backTo cpos (starEach (e :: es) X.env)).all (fun x => !x.1) && (backToKw cpos (keywordEach [] X.env)).all (fun x => x.1.isSome)
      && decide ((e :: es).length + ([] : List Keyword).length + (if ([] : List Keyword).isEmpty then 0 else 1) < 30)) = true := by rfl)
    (hline : (apos.endLine == cpos.line) = true := by rfl) (hs : starEach (e :: es) X.env = (false, eval e X.env) :: starEach es X.env := by rfl) (hplain : (backTo cpos (starEach es X.env)).any (·.1) = false := by rfl) :
    PE X (.Call (.Attribute o name apos) (e :: es) [] cpos) (tBMT r to t) := by
  refine ⟨fun pins s σ H Q I h => ?_⟩
  refine wpAny_Call_method_late hbase hfew hline rfl (thn (ho.run pins s σ H _ I h) fun v s1 ⟨x, H1, I1, r1, ty, q1⟩ => ?_)
  obtain ⟨p, ys, ex, ob, hp, hd, hc⟩ := ty
  subst ex
  cases r1
  have hg := (I1.hok p _ hp).1
  refine ⟨"tuple", id, pa, slot, hty, ⟨ob, hg, hc⟩, (fun a e2 => ?_), ?_⟩
  · cases e2
    exact ⟨ob, hg, hd⟩
  have hA := ha.run cpos pins s1 σ H1 _ I1 q1
  rw [hs] at hA ⊢
  refine Calls.callWith_builtin (by show (false || (backTo cpos (starEach es X.env)).any (·.1)) = false; rw [hplain] <;> rfl) (Calls.evalArgs_plain ?_)
  exact thn hA fun us s2 ⟨vs, H2, I2, r2, q2⟩ => hm pins s2 σ H2 (.ref p) vs _ us Q I2 rfl r2 q2
def rTupIx (K : PySem.W.Frag) : V → List V → Hp → VK → Prop := fun x xs H Q => ∃ p, ∃ ys : List Str, ∃ z j, x = .ref p ∧ xs = [.str z] ∧ SqT K H p (ys.map V.str) ∧ ys[j]? = some z ∧ (∀ m, m < j → ys[m]? ≠ some z) ∧ Q (.int (j : Nat)) H
theorem mt_tup_ix_K {X : Cx} {K : PySem.W.Frag} (e : X.K = K) : MtR X "tuple.index" (rTupIx K) := by
  subst e
  exact mt_tup_index
end K1
namespace K1
open PySem PySem.Spec PyProof.Rows L2 Ow
abbrev N_law_first : List Str := ["one", "other"]
section
variable {P : Program} {w : World} {K : PySem.W.Frag} {mg : Str → Option Value} {base : Heap}
end
end K1
namespace K1
open PySem PySem.Spec PyProof.Rows L2 Ow
abbrev N_law_order : List Str := ["first", "second", "k"]
theorem order_end : ∀ xs ys : List V, (xs = [] ∨ ys = []) →
    orderV xs ys = (if decide (ys.length < xs.length) = true then 1 else 0) - (if decide (xs.length < ys.length) = true then 1 else 0)
  | [], [], _ => rfl
  | [], y :: ys, _ => by simp [orderV]
  | x :: xs, [], _ => by simp [orderV]
  | x :: xs, y :: ys, h => by simp at h
section
variable {P : Program} {w : World} {K : PySem.W.Frag} {mg : Str → Option Value} {base : Heap}
end
end K1
namespace K1
open PySem PySem.Spec PyProof.Rows L2 Ow Tlz
abbrev svalue_key : Stmt := topS 2
abbrev Nvalue_key : List Str := ["value"]
theorem scvalue_key : FnScope Nvalue_key ["value"] (defScope svalue_key) := ⟨rfl, rfl, rfl, by decide +kernel, rfl, by decide +kernel, by decide +kernel⟩
abbrev srow_key : Stmt := topS 3
abbrev Nrow_key : List Str := ["row", "value"]
theorem scrow_key : FnScope Nrow_key ["row"] (defScope srow_key) := ⟨rfl, rfl, rfl, by decide +kernel, rfl, by decide +kernel, by decide +kernel⟩
section
variable {P : Program} {w : World} {K : PySem.W.Frag} {mg : Str → Option Value} {base : Heap}
theorem ok_vkey {f : Addr} {fd : FuncData} (F : Fun K "value_key" "value_key" svalue_key f fd) (T : Bl mg) :
    FnOk P w K mg base CX0 1 f fd ["value"] (spVKey K) := by
  refine F.ok scvalue_key (fun vs H Q E h => ?_) (fun cdv A outer s H vs Q E hr h => ?_)
  · obtain ⟨x, rfl, _⟩ := h
    rfl
  · obtain ⟨x, rfl, sx, q⟩ := h
    refine ⟨_, (pss_cons (ps_if (pt_val (pe_callB call_isi (by rfl) T.isinstance (by decide +kernel) (pa_cons (pv 0) (pa_cons (pe_ty "str" (by rfl) T.str (by decide +kernel)) pa_nil)))) (pss_one (ps_ret (pe_tup (pa_cons pe_int (pa_cons (pv 0) pa_nil))))) pss_nil)
      (pss_one (ps_ret (pe_tup (pa_cons pe_int (pa_cons (pv 0) pa_nil)))))), ?_⟩
    rcases sx with ⟨i, rfl, _⟩ | ⟨z, rfl, _⟩
    · refine ⟨_, rfl, _, _, .type "int", .type "str", false, rfl, .ty _, .base (.int i), kit_ty (by decide +kernel), ?_⟩
      refine ⟨_, rfl, iteF ?_⟩
      refine ⟨_, rfl, sz 2, fun t nt => q _ _ ?_ (Same.new nt)⟩
      exact .tup (SqT.of upd_same) (.cons (.int 0) (.cons (.int i) .nil))
    · refine ⟨_, rfl, _, _, .type "str", .type "str", true, rfl, .ty _, .base (.str z), kit_ty (by decide +kernel), ?_⟩
      refine ⟨_, rfl, iteT ?_⟩
      refine ⟨_, rfl, sz 2, fun t nt => q _ _ ?_ (Same.new nt)⟩
      exact .tup (SqT.of upd_same) (.cons (.int 1) (.cons (.str z) .nil))
theorem ok_rkey {f : Addr} {fd : FuncData} (F : Fun K "row_key" "row_key" srow_key f fd) (T : Bl mg)
    (Dvalue_key : Kn P w K mg base 1 "value_key" ["value"] (spVKey K)) :
    FnOk P w K mg base CX0 2 f fd ["row"] (spRKey K) := by
  refine F.ok scrow_key (fun vs H Q E h => ?_) (fun cdv A outer s H vs Q E hr h => ?_)
  · obtain ⟨a, xs, rfl, _⟩ := h
    rfl
  · obtain ⟨a, xs, rfl, hx, sx, lx, q⟩ := h
    refine ⟨_, (pss_one (ps_ret (pe_callTy call_tuple_of (by rfl) T.tuple (by decide +kernel) (pa_cons (pe_lc (own := [("value", 1)]) (g := gName 1) rfl scrow_key.nd (pi_tup (pv 0)) (blkOk_by (own := [("value", 1)]) (N := Nrow_key) (sc := defScope srow_key) (by decide +kernel)) (fun _ _ _ _ _ => pg_name (i := 1) scrow_key.nd rfl (Or.inl rfl)) (fun _ _ _ _ _ => pts_nil) (fun _ _ _ _ _ => (pe_kn Dvalue_key hr (pa_cons (pv 1) pa_nil)))) pa_nil)))), ?_⟩
    refine ⟨_, rfl, a, rfl, ⟨_, hx⟩, fun D nD => lc_tup (K := K) (a := a) (xs := xs) (fun i H4 => ∃ ks : List V, H4 D = some (.lst ks) ∧ ks.length = i ∧ Same H H4 ∧
      DpAll K H4 ks ((xs.take i).map vkD)) ⟨[], upd_same, rfl, Same.new nD, .nil⟩ (fun i H4 hi hP => ?_) (fun i x H4 hi hP => ?_) (fun H4 hP => ?_)⟩
    · obtain ⟨ks, _, _, sm, _⟩ := hP
      exact Tk.same sm _ _ hx
    · obtain ⟨ks, eD, lk, sm, da⟩ := hP
      refine ⟨rfl, ?_⟩
      refine ⟨_, rfl, x, rfl, sx x (List.mem_of_getElem? hi), ?_⟩
      intro y H5 dy s5
      have hl : i < xs.length := (List.getElem?_eq_some_iff.mp hi).1
      have t5 : Tk K H4 H5 := Tk.same s5
      have eD5 := s5 _ _ eD
      refine ⟨ks, eD5, small (m := 1000) (by omega) (by decide), ks ++ [y], upd_same, by rw [List.length_append, lk]; rfl, Same.over (sm.trans s5) nD, ?_⟩
      have t6 : Tk K H5 (upd H5 D (.lst (ks ++ [y]))) := Tk.put eD5
      rw [List.take_add_one, hi]
      rw [List.map_append]
      exact DpAll.snoc (DpAll.tk (t5.trans t6) _ _ (noLs_vk _) da) (Dp.tk t6 _ _ (noL_vk x) dy)
    · obtain ⟨ks, eD, lk, sm, da⟩ := hP
      rw [List.take_length] at da
      refine ⟨D, ks, rfl, .inl ⟨SqL.of eD, fun l nl => q _ _ ?_ (sm.trans (Same.new nl))⟩⟩
      exact .tup (SqT.of upd_same) (DpAll.tk (Tk.same (Same.new nl)) _ _ (noLs_vk _) da)
end
end K1
namespace K1
open PySem PySem.Spec PyProof.Rows L2 Ow
abbrev N_law_mix : List Str := ["cell", "k", "value"]
section
variable {P : Program} {w : World} {K : PySem.W.Frag} {mg : Str → Option Value} {base : Heap}
end
end K1
namespace K1
open PySem PySem.Spec PyProof.Rows L2 Ow
abbrev N_law_at : List Str := ["draws", "index"]
section
variable {P : Program} {w : World} {K : PySem.W.Frag} {mg : Str → Option Value} {base : Heap}
end
end K1
namespace K1
open PySem PySem.Spec PyProof.Rows L2 Ow
abbrev N_law_draws : List Str := ["script", "draws", "k", "cell", "place"]
section
variable {P : Program} {w : World} {K : PySem.W.Frag} {mg : Str → Option Value} {base : Heap}
end
end K1
namespace K1
open PySem PySem.Spec PyProof.Rows L2 Ow
abbrev N_law_next : List Str := ["state", "limit"]
section
variable {P : Program} {w : World} {K : PySem.W.Frag} {mg : Str → Option Value} {base : Heap}
end
end K1
namespace K1
open PySem PySem.Spec PyProof.Rows L2 Ow
abbrev N_law_text : List Str := ["state", "most", "chars", "start", "step", "k"]
theorem join_len : ∀ (ys : List Str) (n : Nat), (∀ y ∈ ys, y.length ≤ 1) → ys.length ≤ n → (ys.map (·.length)).sum ≤ n
  | [], _, _, _ => Nat.zero_le _
  | y :: r, 0, _, h => by simp at h
  | y :: r, n + 1, h, hl => by
    have ih := join_len r n (fun z hz => h z (List.mem_cons_of_mem _ hz)) (by simpa using hl)
    have h1 := h y List.mem_cons_self
    rw [List.map_cons, List.sum_cons]
    omega
section
variable {P : Program} {w : World} {K : PySem.W.Frag} {mg : Str → Option Value} {base : Heap}
end
end K1
namespace K1
open PySem PySem.Spec PyProof.Rows L2 Ow
abbrev N_law_value : List Str := ["state", "pick", "number", "k"]
section
variable {P : Program} {w : World} {K : PySem.W.Frag} {mg : Str → Option Value} {base : Heap}
end
end K1
namespace K1
open PySem PySem.Spec PyProof.Rows L2 Ow
abbrev N_law_small : List Str := ["state", "pick"]
section
variable {P : Program} {w : World} {K : PySem.W.Frag} {mg : Str → Option Value} {base : Heap}
end
end K1
namespace K1
open PySem PySem.Spec PyProof.Rows L2 Ow Tlz
/-! the order of rows -/
theorem cps_inj {x y : Str} (h : x.cps.toList = y.cps.toList) : x = y := by
  cases x
  cases y
  simp only [Str.mk.injEq]
  exact Array.toList_inj.mp h
theorem str_tot (x y : Str) : x.cps.toList < y.cps.toList ∨ x = y ∨ y.cps.toList < x.cps.toList := by
  by_cases h1 : x.cps.toList < y.cps.toList
  · exact .inl h1
  · by_cases h2 : y.cps.toList < x.cps.toList
    · exact .inr (.inr h2)
    · exact .inr (.inl (cps_inj (List.le_antisymm h2 h1)))
theorem first_tot {x y : V} (sx : Scal x) (sy : Scal y) : firstV x y = true ∨ x = y ∨ firstV y x = true := by
  rcases sx with ⟨i, rfl, _⟩ | ⟨x, rfl, _⟩ <;> rcases sy with ⟨j, rfl, _⟩ | ⟨y, rfl, _⟩
  · rcases Int.lt_trichotomy i j with h | h | h
    · exact .inl (decide_eq_true h)
    · exact .inr (.inl (by rw [h]))
    · exact .inr (.inr (decide_eq_true h))
  · exact .inl rfl
  · exact .inr (.inr rfl)
  · rcases str_tot x y with h | h | h
    · exact .inl (decide_eq_true h)
    · exact .inr (.inl (by rw [h]))
    · exact .inr (.inr (decide_eq_true h))
theorem first_irr {x : V} (sx : Scal x) : firstV x x = false := by
  rcases sx with ⟨i, rfl, _⟩ | ⟨x, rfl, _⟩
  · exact decide_eq_false (by omega)
  · exact decide_eq_false (List.lt_irrefl _)
theorem first_trans {x y z : V} (sx : Scal x) (sy : Scal y) (sz : Scal z) (h : firstV x y = true) (g : firstV y z = true) : firstV x z = true := by
  rcases sx with ⟨i, rfl, _⟩ | ⟨x, rfl, _⟩ <;> rcases sy with ⟨j, rfl, _⟩ | ⟨y, rfl, _⟩ <;> rcases sz with ⟨k, rfl, _⟩ | ⟨z, rfl, _⟩
  · have a : i < j := of_decide_eq_true h
    have b : j < k := of_decide_eq_true g
    exact decide_eq_true (by omega)
  · rfl
  · exact absurd (show false = true from g) Bool.false_ne_true
  · rfl
  · exact absurd (show false = true from h) Bool.false_ne_true
  · exact absurd (show false = true from h) Bool.false_ne_true
  · exact absurd (show false = true from g) Bool.false_ne_true
  · have a : x.cps.toList < y.cps.toList := of_decide_eq_true h
    have b : y.cps.toList < z.cps.toList := of_decide_eq_true g
    exact decide_eq_true (List.lt_trans a b)
def Rlt (xs ys : List V) : Prop := orderV xs ys < 0
instance (xs ys : List V) : Decidable (Rlt xs ys) := inferInstanceAs (Decidable (_ < _))
theorem order_cons (x y : V) (xs ys : List V) : orderV (x :: xs) (y :: ys) = if firstV x y = true then -1 else if firstV y x = true then 1 else orderV xs ys := by
  rw [orderV]
theorem rlt_cons {x y : V} {xs ys : List V} (sx : Scal x) (sy : Scal y) : Rlt (x :: xs) (y :: ys) ↔ firstV x y = true ∨ (x = y ∧ Rlt xs ys) := by
  unfold Rlt
  rw [order_cons]
  rcases first_tot sx sy with h | h | h
  · rw [if_pos h]
    exact ⟨fun _ => .inl h, fun _ => by decide⟩
  · subst h
    rw [first_irr sx, if_neg Bool.false_ne_true, if_neg Bool.false_ne_true]
    exact ⟨fun z => .inr ⟨rfl, z⟩, fun z => z.elim (fun w => absurd w Bool.false_ne_true) (·.2)⟩
  · have h2 := first_asym sy sx h
    rw [h2, if_neg Bool.false_ne_true, if_pos h]
    refine ⟨fun z => absurd z (by decide), fun z => z.elim (fun w => absurd w Bool.false_ne_true) fun w => ?_⟩
    rw [w.1, first_irr sy] at h
    exact absurd h Bool.false_ne_true
theorem rlt_trans : ∀ {xs ys zs : List V}, (∀ x ∈ xs, Scal x) → (∀ y ∈ ys, Scal y) → (∀ z ∈ zs, Scal z) → Rlt xs ys → Rlt ys zs → Rlt xs zs
  | [], [], _, _, _, _, h, _ => absurd h (by decide)
  | [], _ :: _, [], _, _, _, _, g => absurd g (by unfold Rlt orderV; decide)
  | [], _ :: _, _ :: _, _, _, _, _, _ => by unfold Rlt orderV; decide
  | _ :: _, [], _, _, _, _, h, _ => absurd h (by unfold Rlt orderV; decide)
  | _ :: _, _ :: _, [], _, _, _, _, g => absurd g (by unfold Rlt orderV; decide)
  | x :: xs, y :: ys, z :: zs, hx, hy, hz, h, g => by
    have sx := hx x List.mem_cons_self
    have sy := hy y List.mem_cons_self
    have sz := hz z List.mem_cons_self
    rw [rlt_cons sx sy] at h
    rw [rlt_cons sy sz] at g
    rw [rlt_cons sx sz]
    rcases h with h | ⟨e, h⟩ <;> rcases g with g | ⟨e2, g⟩
    · exact .inl (first_trans sx sy sz h g)
    · rw [← e2]; exact .inl h
    · rw [e]; exact .inl g
    · exact .inr ⟨e.trans e2, rlt_trans (fun v m => hx v (List.mem_cons_of_mem _ m)) (fun v m => hy v (List.mem_cons_of_mem _ m)) (fun v m => hz v (List.mem_cons_of_mem _ m)) h g⟩
theorem rlt_irr {xs : List V} (hx : ∀ x ∈ xs, Scal x) : ¬ Rlt xs xs := by
  induction xs with
  | nil => decide
  | cons x xs ih =>
    rw [rlt_cons (hx x List.mem_cons_self) (hx x List.mem_cons_self)]
    intro h
    rcases h with h | ⟨_, h⟩
    · rw [first_irr (hx x List.mem_cons_self)] at h
      exact Bool.false_ne_true h
    · exact ih (fun v m => hx v (List.mem_cons_of_mem _ m)) h
/-! lists of rows -/
def rrefs (rs : List (Addr × List V)) : List V := rs.map fun t => .ref t.1
def RowsOk (K : PySem.W.Frag) (H : Hp) (rs : List (Addr × List V)) : Prop := ∀ t ∈ rs, SqT K H t.1 t.2 ∧ (∀ x ∈ t.2, Scal x) ∧ t.2.length ≤ 10
theorem rrefs_get {rs : List (Addr × List V)} {i : Nat} {x : V} (h : (rrefs rs)[i]? = some x) : ∃ t, rs[i]? = some t ∧ x = .ref t.1 := by
  unfold rrefs at h
  rw [List.getElem?_map] at h
  cases e : rs[i]? with
  | none => rw [e] at h; cases h
  | some t => rw [e] at h; exact ⟨t, rfl, (Option.some.inj h).symm⟩
theorem rrefs_at {rs : List (Addr × List V)} {i : Nat} {t : Addr × List V} (h : rs[i]? = some t) : (rrefs rs)[i]? = some (.ref t.1) := by
  unfold rrefs
  rw [List.getElem?_map, h]
  rfl
theorem RowsOk.tk {K : PySem.W.Frag} {H H' : Hp} {rs : List (Addr × List V)} (t : Tk K H H') (h : RowsOk K H rs) : RowsOk K H' rs := fun u m => ⟨t _ _ (h u m).1, (h u m).2⟩
theorem RowsOk.snoc {K : PySem.W.Frag} {H : Hp} {rs : List (Addr × List V)} {q : Addr} {xs : List V} (h : RowsOk K H rs) (hq : SqT K H q xs) (sx : ∀ x ∈ xs, Scal x) (lx : xs.length ≤ 10) : RowsOk K H (rs ++ [(q, xs)]) := by
  intro u m
  rcases List.mem_append.mp m with m | m
  · exact h u m
  · rw [List.mem_singleton.mp m]
    exact ⟨hq, sx, lx⟩
theorem rrefs_snoc {rs : List (Addr × List V)} {t : Addr × List V} : rrefs (rs ++ [t]) = rrefs rs ++ [.ref t.1] := by
  unfold rrefs
  rw [List.map_append]
  rfl
theorem rrefs_len (rs : List (Addr × List V)) : (rrefs rs).length = rs.length := by unfold rrefs; rw [List.length_map]
theorem RowsOk.same {K : PySem.W.Frag} {H H' : Hp} {rs : List (Addr × List V)} (s : Same H H') (h : RowsOk K H rs) : RowsOk K H' rs := h.tk (Tk.same s)
/-- the rows stand in their order -/
def Srt (rs : List (Addr × List V)) : Prop := rs.Pairwise fun a b => Rlt a.2 b.2
/-- n is the first place whose row is not before row -/
def Place (rs : List (Addr × List V)) (row : List V) (n : Nat) : Prop := (∀ j t, j < n → rs[j]? = some t → Rlt t.2 row) ∧ ∀ j t, n ≤ j → rs[j]? = some t → ¬ Rlt t.2 row
def spPlace (K : PySem.W.Frag) : Sp := fun vs H Q _ => ∃ (l r : Addr) (rs : List (Addr × List V)) (row : List V), vs = [.ref l, .ref r] ∧ SqL K H l (rrefs rs) ∧ RowsOk K H rs ∧ SqT K H r row ∧ (∀ x ∈ row, Scal x) ∧ row.length ≤ 10 ∧ rs.length ≤ 1000 ∧
  ∀ (n : Nat) H', n ≤ rs.length → (Srt rs → Place rs row n) → Same H H' → Q (.int (n : Int)) H'
abbrev splace_of : Stmt := topS 5
abbrev Nplace_of : List Str := ["rows", "row", "wanted", "low", "high", "middle"]
theorem scplace_of : FnScope Nplace_of ["rows", "row"] (defScope splace_of) := ⟨rfl, rfl, rfl, by decide +kernel, rfl, by decide +kernel, by decide +kernel⟩
def muP : L2.St → Hp → Nat := fun σ _ => match σ with
  | _ :: _ :: _ :: some (.int lo) :: some (.int hi) :: _ => (hi - lo).toNat
  | _ => 0
theorem srt_lt {rs : List (Addr × List V)} (h : Srt rs) {i j : Nat} {a b : Addr × List V} (ha : rs[i]? = some a) (hb : rs[j]? = some b) (l : i < j) : Rlt a.2 b.2 := by
  obtain ⟨pa, ea⟩ := List.getElem?_eq_some_iff.mp ha
  obtain ⟨pb, eb⟩ := List.getElem?_eq_some_iff.mp hb
  rw [← ea, ← eb]
  exact List.pairwise_iff_getElem.mp h i j pa pb l
section
variable {P : Program} {w : World} {K : PySem.W.Frag} {mg : Str → Option Value} {base : Heap}
theorem ok_place {f : Addr} {fd : FuncData} (F : Fun K "place_of" "place_of" splace_of f fd) (T : Bl mg)
    (Drow_key : Kn P w K mg base 2 "row_key" ["row"] (spRKey K)) :
    FnOk P w K mg base CX0 3 f fd ["rows", "row"] (spPlace K) := by
  refine F.ok scplace_of (fun vs H Q E h => ?_) (fun cdv A outer s H vs Q E hr h => ?_)
  · obtain ⟨l, r, rs, row, rfl, _⟩ := h
    rfl
  · obtain ⟨l, r, rs, row, rfl, hl, hR, hrow, sr, lr, lrs, q⟩ := h
    refine ⟨_, (pss_cons (ps_set (i := 2) scplace_of.nd rfl (.inl rfl) (pe_kn Drow_key hr (pa_cons (pv 1) pa_nil)))
      (pss_cons (ps_set (i := 3) scplace_of.nd rfl (.inl rfl) pe_int)
      (pss_cons (ps_set (i := 4) scplace_of.nd rfl (.inl rfl) (pe_callB call_len_seq (by rfl) T.len PySem.boot_len (pa_cons (pv 0) pa_nil)))
      (pss_cons (ps_while PassesOwn.never (pt_cmpR op_lt (pv 3) (pv 4) (nomark _))
        (pss_cons (ps_set (i := 5) scplace_of.nd rfl (.inl rfl) (pe_op op_fdiv (pe_op op_add (pv 3) (pv 4)) pe_int))
        (pss_one (ps_if (pt_cmpR (op_ltK hr) (pe_kn Drow_key hr (pa_cons (pe_ix ix_list (pv 0) (pv 5) (fun _ _ => rfl)) pa_nil)) (pv 2) (nomark _))
          (pss_one (ps_set (i := 3) scplace_of.nd rfl (.inl rfl) (pe_op op_add (pv 5) pe_int)))
          (pss_one (ps_set (i := 4) scplace_of.nd rfl (.inl rfl) (pv 5)))))))
      (pss_one (ps_ret (pv 3))))))), ?_⟩
    refine ⟨_, rfl, r, row, rfl, hrow, sr, by omega, fun y H1 dy s1 => ?_⟩
    refine ⟨_, rfl, l, rrefs rs, rfl, .inl (s1.seq hl), ?_⟩
    refine while_by (fun σ H2 => ∃ (lo hi : Nat) (y5 : Option V), σ = [some (.ref l), some (.ref r), some y, some (.int (lo : Int)), some (.int (hi : Int)), y5] ∧ Same H1 H2 ∧ lo ≤ hi ∧ hi ≤ rs.length ∧
        (Srt rs → (∀ j t, j < lo → rs[j]? = some t → Rlt t.2 row) ∧ ∀ j t, hi ≤ j → rs[j]? = some t → ¬ Rlt t.2 row)) muP
      ⟨0, rs.length, none, by rw [rrefs_len]; rfl, Same.refl _, Nat.zero_le _, Nat.le_refl _, fun _ => ⟨fun j t h => absurd h (Nat.not_lt_zero _), fun j t h e => by
        have := (List.getElem?_eq_some_iff.mp e).1
        omega⟩⟩ ?_ ?_
    · rintro σ H2 ⟨lo, hi, y5, rfl, s2, h1, h2, inv⟩
      refine ⟨_, rfl, _, rfl, _, _, rfl, rfl, _, rfl, ite2 (fun e => ?_) (fun e => ?_)⟩
      · have e1 : (lo : Int) < (hi : Int) := of_decide_eq_true e
        have lm : (lo + hi) / 2 < rs.length := by omega
        have em := List.getElem?_eq_getElem lm
        generalize hm : (lo + hi) / 2 = m at lm em
        obtain ⟨ht, st, lt⟩ := hR rs[m] (List.getElem_mem lm)
        have emi : (((lo : Int) + (hi : Int)) / 2) = ((m : Nat) : Int) := by omega
        refine ⟨_, rfl, _, rfl, _, _, rfl, rfl, _, 2, rfl, rfl, ⟨by decide, by decide⟩, ?_⟩
        refine ⟨_, rfl, _, rfl, l, rrefs rs, _, _, rfl, rfl, (s1.trans s2).seq hl, at_of (j := m) (by omega) (rrefs_at em), rs[m].1, rs[m].2, rfl, Tk.same (s1.trans s2) _ _ ht, st, by omega, fun z H3 dz s3 => ?_⟩
        obtain ⟨ag, okd⟩ := Agr.row st sr
        refine ⟨_, rfl, 2, _, _, ⟨dz, Dp.tk (Tk.same (s2.trans s3)) _ _ (noL_rk row) dy, lay_rk st, lay_rk sr, deep_rk _, deep_rk _, okd, by decide⟩, _, rfl, ?_⟩
        rw [ag.lt]
        refine ite2 (fun e2 => ?_) (fun e2 => ?_)
        · have e3 : Rlt rs[m].2 row := of_decide_eq_true e2
          have e5 : ([some (.ref l), some (.ref r), some y, some (.int (((lo : Int) + (hi : Int)) / 2 + 1)), some (.int (hi : Int)), some (.int (((lo : Int) + (hi : Int)) / 2))] : L2.St) =
              [some (.ref l), some (.ref r), some y, some (.int ((m + 1 : Nat) : Int)), some (.int (hi : Int)), some (.int (((lo : Int) + (hi : Int)) / 2))] := by
            rw [emi]
            rfl
          refine ⟨_, rfl, _, _, rfl, rfl, ⟨m + 1, hi, some (.int (((lo : Int) + (hi : Int)) / 2)), e5, s2.trans s3, by omega, h2, fun srt => ⟨fun j t hj et => ?_, (inv srt).2⟩⟩, ?_⟩
          · by_cases ej : j = m
            · subst ej
              rw [em] at et
              rw [← Option.some.inj et]
              exact e3
            · exact rlt_trans (hR t (List.mem_of_getElem? et)).2.1 st sr (srt_lt srt et em (by omega)) e3
          · show ((hi : Int) - (((lo : Int) + (hi : Int)) / 2 + 1)).toNat < ((hi : Int) - (lo : Int)).toNat
            omega
        · have e3 : ¬ Rlt rs[m].2 row := fun z => e2 (decide_eq_true z)
          have e5 : ([some (.ref l), some (.ref r), some y, some (.int (lo : Int)), some (.int (((lo : Int) + (hi : Int)) / 2)), some (.int (((lo : Int) + (hi : Int)) / 2))] : L2.St) =
              [some (.ref l), some (.ref r), some y, some (.int (lo : Int)), some (.int (m : Int)), some (.int (((lo : Int) + (hi : Int)) / 2))] := by
            rw [emi]
          refine ⟨_, rfl, ⟨lo, m, some (.int (((lo : Int) + (hi : Int)) / 2)), e5, s2.trans s3, by omega, by omega, fun srt => ⟨(inv srt).1, fun j t hj et => ?_⟩⟩, ?_⟩
          · by_cases ej : j = m
            · subst ej
              rw [em] at et
              rw [← Option.some.inj et]
              exact e3
            · intro z
              exact e3 (rlt_trans st (hR t (List.mem_of_getElem? et)).2.1 sr (srt_lt srt em et (by omega)) z)
          · show ((((lo : Int) + (hi : Int)) / 2) - (lo : Int)).toNat < ((hi : Int) - (lo : Int)).toNat
            omega
      · have e1 : ¬ (lo : Int) < (hi : Int) := fun z => e (decide_eq_true z)
        have e2 : hi = lo := by omega
        subst e2
        exact ⟨_, rfl, q hi _ h2 inv (s1.trans s2)⟩
    · rintro σ H2 Q1 Q2 hq ⟨v, hv, u, hu, i, j, hi, hj, k, hk, z⟩
      exact ⟨v, hv, u, hu, i, j, hi, hj, k, hk, hq _ _ z⟩
end
end K1
namespace K1
open PySem PySem.Spec PyProof.Rows L2 Ow Tlz
/-! tables by names -/
section
variable {β : Type}
def valG (l : List (Str × β)) (k : Str) : Option β := (l.find? fun e => decide (e.1 = k)).map (·.2)
def putG (l : List (Str × β)) (k : Str) (b : β) : List (Str × β) := if (l.any fun e => decide (e.1 = k)) = true then l.map (fun e => if e.1 = k then (e.1, b) else e) else l ++ [(k, b)]
def kvG (vv : β → V) (l : List (Str × β)) : List (Key × V) := l.map fun e => ((Sum.inr e.1 : Key), vv e.2)
theorem inr_iff (a b : Str) : ((Sum.inr a : Key) = Sum.inr b) ↔ a = b := ⟨fun h => Sum.inr.inj h, fun h => by rw [h]⟩
theorem kvG_any (vv : β → V) (l : List (Str × β)) (k : Str) : ((kvG vv l).any fun e => decide (e.1 = (Sum.inr k : Key))) = l.any fun e => decide (e.1 = k) := by
  unfold kvG
  rw [List.any_map]
  congr 1
  funext e
  exact decide_eq_decide.mpr (inr_iff _ _)
theorem kvG_put (vv : β → V) (l : List (Str × β)) (k : Str) (b : β) : putK (kvG vv l) (Sum.inr k) (vv b) = kvG vv (putG l k b) := by
  unfold putK putG
  rw [kvG_any]
  split
  · unfold kvG
    rw [List.map_map, List.map_map]
    refine List.map_congr_left fun e _ => ?_
    show (if (Sum.inr e.1 : Key) = Sum.inr k then ((Sum.inr e.1 : Key), vv b) else (Sum.inr e.1, vv e.2)) = _
    by_cases h : e.1 = k
    · rw [if_pos ((inr_iff _ _).mpr h)]
      show _ = ((Sum.inr (if e.1 = k then (e.1, b) else e).1 : Key), vv (if e.1 = k then (e.1, b) else e).2)
      rw [if_pos h]
    · rw [if_neg (fun z => h ((inr_iff _ _).mp z))]
      show _ = ((Sum.inr (if e.1 = k then (e.1, b) else e).1 : Key), vv (if e.1 = k then (e.1, b) else e).2)
      rw [if_neg h]
  · unfold kvG
    rw [List.map_append]
    rfl
theorem kvG_val (vv : β → V) (k : Str) : ∀ l : List (Str × β), valV (kvG vv l) (Sum.inr k) = (valG l k).map vv
  | [] => rfl
  | e :: l => by
    have ih := kvG_val vv k l
    by_cases h : e.1 = k
    · have h1 : valV (kvG vv (e :: l)) (Sum.inr k) = some (vv e.2) := valV_pos (p := ((Sum.inr e.1 : Key), vv e.2)) ((inr_iff _ _).mpr h)
      rw [h1]
      unfold valG
      rw [List.find?_cons, decide_eq_true h]
      rfl
    · have h1 : valV (kvG vv (e :: l)) (Sum.inr k) = valV (kvG vv l) (Sum.inr k) := valV_neg (p := ((Sum.inr e.1 : Key), vv e.2)) (fun z => h ((inr_iff _ _).mp z))
      rw [h1, ih]
      unfold valG
      rw [List.find?_cons, decide_eq_false h]
theorem valG_mem {l : List (Str × β)} {k : Str} {b : β} (h : valG l k = some b) : (k, b) ∈ l := by
  unfold valG at h
  cases e : l.find? fun e => decide (e.1 = k) with
  | none => rw [e] at h; cases h
  | some x =>
    rw [e] at h
    have h1 := List.find?_some e
    have h2 := List.mem_of_find?_eq_some e
    have h3 : x.1 = k := of_decide_eq_true h1
    have h4 : x.2 = b := Option.some.inj h
    rw [← h3, ← h4]
    exact h2
theorem valG_none {l : List (Str × β)} {k : Str} (h : valG l k = none) : ∀ e ∈ l, e.1 ≠ k := by
  unfold valG at h
  intro e m he
  cases z : l.find? fun e => decide (e.1 = k) with
  | none =>
    have := List.find?_eq_none.mp z e m
    exact this (decide_eq_true he)
  | some x => rw [z] at h; cases h
theorem any_val (l : List (Str × β)) (k : Str) : (l.any fun e => decide (e.1 = k)) = (valG l k).isSome := by
  cases h : valG l k with
  | none =>
    rw [Option.isSome_none, List.any_eq_false]
    intro e m
    rw [decide_eq_false (valG_none h e m)]
    exact Bool.false_ne_true
  | some b =>
    rw [Option.isSome_some, List.any_eq_true]
    exact ⟨_, valG_mem h, decide_eq_true rfl⟩
theorem putG_new {l : List (Str × β)} {k : Str} (b : β) (h : valG l k = none) : putG l k b = l ++ [(k, b)] := by
  unfold putG
  rw [any_val, h]
  rfl
theorem putG_len (l : List (Str × β)) (k : Str) (b : β) : (putG l k b).length ≤ l.length + 1 := by
  unfold putG
  split
  · rw [List.length_map]; omega
  · rw [List.length_append]; exact Nat.le_refl _
theorem putG_mem {l : List (Str × β)} {k : Str} {b : β} {e : Str × β} (h : e ∈ putG l k b) : e = (k, b) ∨ (e ∈ l ∧ e.1 ≠ k) := by
  unfold putG at h
  split at h
  · obtain ⟨x, mx, ex⟩ := List.mem_map.mp h
    by_cases z : x.1 = k
    · rw [if_pos z] at ex
      rw [← ex, z]
      exact .inl rfl
    · rw [if_neg z] at ex
      rw [← ex]
      exact .inr ⟨mx, z⟩
  · rename_i a
    rcases List.mem_append.mp h with m | m
    · refine .inr ⟨m, fun z => a ?_⟩
      rw [List.any_eq_true]
      exact ⟨e, m, decide_eq_true z⟩
    · exact .inl (List.mem_singleton.mp m)
theorem putG_keys (l : List (Str × β)) (k : Str) (b : β) : (putG l k b).map (·.1) = if (valG l k).isSome = true then l.map (·.1) else l.map (·.1) ++ [k] := by
  unfold putG
  rw [any_val]
  split
  · rw [List.map_map]
    refine List.map_congr_left fun e _ => ?_
    show (if e.1 = k then (e.1, b) else e).1 = e.1
    split <;> rfl
  · rw [List.map_append]
    rfl
theorem putG_nodup {l : List (Str × β)} {k : Str} {b : β} (h : (l.map (·.1)).Nodup) : ((putG l k b).map (·.1)).Nodup := by
  rw [putG_keys]
  split
  · exact h
  · rename_i z
    rw [List.nodup_append]
    refine ⟨h, by simp, fun a ma c mc => ?_⟩
    rw [List.mem_singleton.mp mc]
    rintro rfl
    obtain ⟨e, me, ee⟩ := List.mem_map.mp ma
    cases w : valG l a with
    | none => exact valG_none w e me ee
    | some _ => rw [w] at z; exact z rfl
theorem valG_of {l : List (Str × β)} {k : Str} {b : β} (nd : (l.map (·.1)).Nodup) (h : (k, b) ∈ l) : valG l k = some b := by
  induction l with
  | nil => cases h
  | cons e l ih =>
    rw [List.map_cons, List.nodup_cons] at nd
    unfold valG
    rw [List.find?_cons]
    rcases List.mem_cons.mp h with z | z
    · rw [← z, decide_eq_true rfl]
      rfl
    · have ne : e.1 ≠ k := fun w => nd.1 (List.mem_map.mpr ⟨_, z, w.symm⟩)
      rw [decide_eq_false ne]
      exact ih nd.2 z
/-- what putG keeps of an addressed table when the address stays -/
theorem putG_kv {vv : β → V} {l : List (Str × β)} {k : Str} {a b : β} (nd : (l.map (·.1)).Nodup) (h : valG l k = some a) (e : vv b = vv a) : kvG vv (putG l k b) = kvG vv l := by
  unfold putG kvG
  rw [any_val, h, if_pos (show (some a).isSome = true from rfl), List.map_map]
  refine List.map_congr_left fun x mx => ?_
  show ((Sum.inr (if x.1 = k then (x.1, b) else x).1 : Key), vv (if x.1 = k then (x.1, b) else x).2) = _
  by_cases z : x.1 = k
  · have z2 : valG l k = some x.2 := valG_of nd (by rw [← z]; exact mx)
    rw [if_pos z, e]
    rw [h] at z2
    rw [Option.some.inj z2]
  · rw [if_neg z]
end
end K1
namespace K1
open PySem PySem.Spec PyProof.Rows L2 Ow Tlz
/-! a State at x -/
theorem k_fr : ¬ (("facts" : Str) = "relations") := by decide +kernel
theorem k_sr : ¬ (("structures" : Str) = "relations") := by decide +kernel
theorem k_sf : ¬ (("structures" : Str) = "facts") := by decide +kernel
theorem k_lr : ¬ (("layouts" : Str) = "relations") := by decide +kernel
theorem k_lf : ¬ (("layouts" : Str) = "facts") := by decide +kernel
theorem k_ls : ¬ (("layouts" : Str) = "structures") := by decide +kernel
/-- the attributes, in the order in which they are stored -/
def flds (dr df ds dl : V) : List (Str × V) := putF "layouts" dl (putF "structures" ds (putF "facts" df (putF "relations" dr [])))
theorem flds_r (dr df ds dl : V) : (flds dr df ds dl).lookup ("relations" : Str) = some dr := by
  unfold flds
  rw [lookup_putF, if_neg (fun z => k_lr z.symm), lookup_putF, if_neg (fun z => k_sr z.symm), lookup_putF, if_neg (fun z => k_fr z.symm), lookup_putF, if_pos rfl]
theorem flds_f (dr df ds dl : V) : (flds dr df ds dl).lookup ("facts" : Str) = some df := by
  unfold flds
  rw [lookup_putF, if_neg (fun z => k_lf z.symm), lookup_putF, if_neg (fun z => k_sf z.symm), lookup_putF, if_pos rfl]
theorem flds_s (dr df ds dl : V) : (flds dr df ds dl).lookup ("structures" : Str) = some ds := by
  unfold flds
  rw [lookup_putF, if_neg (fun z => k_ls z.symm), lookup_putF, if_pos rfl]
theorem flds_l (dr df ds dl : V) : (flds dr df ds dl).lookup ("layouts" : Str) = some dl := by
  unfold flds
  rw [lookup_putF, if_pos rfl]
structure Txt (K : PySem.W.Frag) (mg : Str → Option Value) (C : Addr) : Prop where
  cl : Cls K C
  nR : NoAttr K C "relations"
  nF : NoAttr K C "facts"
  nS : NoAttr K C "structures"
  nL : NoAttr K C "layouts"
  mgC : mg "State" = some (.ref C)
abbrev Tb := List (Str × Addr × List V)
abbrev Fb := List (Str × Addr × List (Addr × List V))
def kvR (R : Tb) : List (Key × V) := kvG (fun b => V.ref b.1) R
def kvF (F : Fb) : List (Key × V) := kvG (fun b => V.ref b.1) F
/-- Z: what the State alone has; b: the most rows of a name -/
structure StAt (K : PySem.W.Frag) (C : Addr) (Z : Addr → Prop) (H : Hp) (x dr df ds dl : Addr) (R : Tb) (F : Fb) (S : Tb) (L : List (Str × V)) (b : Nat) : Prop where
  ob : ∃ dx, H x = some (.ins C dx (flds (.ref dr) (.ref df) (.ref ds) (.ref dl)))
  r : H dr = some (.dK (kvR R))
  rt : ∀ e ∈ R, SqT K H e.2.1 e.2.2
  f : H df = some (.dK (kvF F))
  ft : ∀ e ∈ F, H e.2.1 = some (.lst (rrefs e.2.2)) ∧ RowsOk K H e.2.2 ∧ e.2.2.length ≤ b
  fz : ∀ e ∈ F, Z e.2.1
  fp : F.Pairwise fun a b => a.2.1 ≠ b.2.1
  fn : (F.map (·.1)).Nodup
  s : H ds = some (.dK (kvR S))
  st : ∀ e ∈ S, SqT K H e.2.1 e.2.2
  l : H dl = some (.dK (kvG id L))
  z : Z dr ∧ Z df ∧ Z ds ∧ Z dl ∧ ¬ Z x
  ne : dr ≠ df ∧ dr ≠ ds ∧ dr ≠ dl ∧ df ≠ ds ∧ df ≠ dl ∧ ds ≠ dl
  nw : ∀ a, H a = none → Z a
  ln : R.length ≤ b ∧ F.length ≤ b ∧ S.length ≤ b ∧ L.length ≤ b
/-- all that the State has not alone stays -/
def Kp (Z : Addr → Prop) (H H' : Hp) : Prop := ∀ a o, ¬ Z a → H a = some o → H' a = some o
theorem Kp.refl (Z : Addr → Prop) (H : Hp) : Kp Z H H := fun _ _ _ h => h
theorem Kp.trans {Z : Addr → Prop} {H H1 H2 : Hp} (a : Kp Z H H1) (b : Kp Z H1 H2) : Kp Z H H2 := fun c o z h => b c o z (a c o z h)
theorem Kp.same {Z : Addr → Prop} {H H' : Hp} (s : Same H H') : Kp Z H H' := fun a o _ h => s a o h
theorem Kp.put {Z : Addr → Prop} {H : Hp} {p : Addr} {o : HO} (z : Z p) : Kp Z H (upd H p o) := fun a u nz h => by
  rw [upd_ne (show a ≠ p from fun e => nz (by rw [e]; exact z))]
  exact h
theorem Tk.dK {K : PySem.W.Frag} {H : Hp} {p : Addr} {kvs : List (Key × V)} {o : HO} (e : H p = some (.dK kvs)) : Tk K H (upd H p o) := by
  refine ⟨fun a xs h => ?_, fun a xs ⟨o, h, d⟩ => ⟨o, by rw [upd_ne (fun z => by rw [z, e] at h; cases h)]; exact h, d⟩⟩
  rcases h with (h | ⟨u, h⟩) | h
  · exact .inl (.inl (by rw [upd_ne (fun z => by rw [z, e] at h; cases h)]; exact h))
  · exact .inl (.inr ⟨u, by rw [upd_ne (fun z => by rw [z, e] at h; cases h)]; exact h⟩)
  · exact .inr h
section
variable {K : PySem.W.Frag} {C x dr df ds dl : Addr} {Z : Addr → Prop} {H H' : Hp} {R S : Tb} {F : Fb} {L : List (Str × V)} {b : Nat}
theorem StAt.same (h : StAt K C Z H x dr df ds dl R F S L b) (s : Same H H') : StAt K C Z H' x dr df ds dl R F S L b := by
  obtain ⟨⟨dx, ob⟩, r, rt, f, ft, fz, fp, fn, s', st, l, z, ne, nw, ln⟩ := h
  exact ⟨⟨dx, s _ _ ob⟩, s _ _ r, fun e m => Tk.same s _ _ (rt e m), s _ _ f, fun e m => ⟨s _ _ (ft e m).1, (ft e m).2.1.same s, (ft e m).2.2⟩, fz, fp, fn, s _ _ s', fun e m => Tk.same s _ _ (st e m), s _ _ l, z, ne,
    fun a n => nw a (s.free n), ln⟩
theorem StAt.up {c : Nat} (h : StAt K C Z H x dr df ds dl R F S L b) (l : b ≤ c) : StAt K C Z H x dr df ds dl R F S L c := by
  obtain ⟨ob, r, rt, f, ft, fz, fp, fn, s', st, l', z, ne, nw, ln⟩ := h
  exact ⟨ob, r, rt, f, fun e m => ⟨(ft e m).1, (ft e m).2.1, by have := (ft e m).2.2; omega⟩, fz, fp, fn, s', st, l', z, ne, nw, by omega⟩
/-- the list of a name becomes another one -/
theorem StAt.rows {n : Str} {q : Addr} {rs rs' : List (Addr × List V)} (h : StAt K C Z H x dr df ds dl R F S L b) (hq : valG F n = some (q, rs)) (ro : RowsOk K H rs') (lr : rs'.length ≤ b) :
    StAt K C Z (upd H q (.lst (rrefs rs'))) x dr df ds dl R (putG F n (q, rs')) S L b ∧ Kp Z H (upd H q (.lst (rrefs rs'))) ∧ Tk K H (upd H q (.lst (rrefs rs'))) := by
  obtain ⟨⟨dx, ob⟩, r, rt, f, ft, fz, fp, fn, s', st, l, z, ne, nw, ln⟩ := h
  have mq := valG_mem hq
  have hq1 := (ft _ mq).1
  have zq : Z q := fz _ mq
  have hq2 : H q = some (.lst (rrefs rs)) := hq1
  have tk : Tk K H (upd H q (.lst (rrefs rs'))) := Tk.put hq2
  have no : ∀ (a : Addr) (kvs : List (Key × V)), H a = some (.dK kvs) → a ≠ q := fun a kvs e w => by rw [w, hq2] at e; cases e
  have oth : ∀ e ∈ F, e.1 ≠ n → e.2.1 ≠ q := fun e m en w => by
    have := List.pairwise_iff_getElem.mp fp
    obtain ⟨i, hi, ei⟩ := List.mem_iff_getElem.mp m
    obtain ⟨j, hj, ej⟩ := List.mem_iff_getElem.mp mq
    have hij : i ≠ j := fun z => by
      subst z
      rw [ei] at ej
      rw [ej] at en
      exact en rfl
    rcases Nat.lt_or_gt_of_ne hij with c | c
    · exact this i j hi hj c (by rw [ei, ej]; exact w)
    · exact this j i hj hi c (by rw [ei, ej]; exact w.symm)
  refine ⟨⟨⟨dx, by rw [upd_ne (show x ≠ q from fun w => z.2.2.2.2 (by rw [w]; exact zq))]; exact ob⟩, by rw [upd_ne (no _ _ r)]; exact r, fun e m => tk _ _ (rt e m), ?_, fun e m => ?_, fun e m => ?_, ?_, putG_nodup fn,
    by rw [upd_ne (no _ _ s')]; exact s', fun e m => tk _ _ (st e m), by rw [upd_ne (no _ _ l)]; exact l, z, ne, fun a n => nw a ?_, ?_⟩, Kp.put zq, tk⟩
  · rw [upd_ne (no _ _ f), f]
    unfold kvF
    rw [putG_kv (vv := fun b : Addr × List (Addr × List V) => V.ref b.1) (b := (q, rs')) fn hq rfl]
  · rcases putG_mem m with w | ⟨w, en⟩
    · rw [w]
      exact ⟨upd_same, ro.tk tk, lr⟩
    · refine ⟨?_, (ft e w).2.1.tk tk, (ft e w).2.2⟩
      rw [upd_ne (oth e w en)]
      exact (ft e w).1
  · rcases putG_mem m with w | ⟨w, _⟩
    · rw [w]
      exact zq
    · exact fz e w
  · unfold putG
    rw [any_val, hq, if_pos (show (some (q, rs)).isSome = true from rfl), List.pairwise_map]
    refine fp.imp_of_mem fun {a c} ma mc hac => ?_
    have fx : ∀ e ∈ F, (if e.1 = n then (e.1, q, rs') else e).2.1 = e.2.1 := fun e m => by
      by_cases en : e.1 = n
      · rw [if_pos en]
        have e2 := valG_of fn (k := n) (b := e.2) (by rw [← en]; exact m)
        rw [hq] at e2
        show q = e.2.1
        rw [← Option.some.inj e2]
      · rw [if_neg en]
    rw [fx a ma, fx c mc]
    exact hac
  · by_cases w : a = q
    · rw [w, upd_same] at n
      cases n
    · rw [upd_ne w] at n
      exact n
  · refine ⟨ln.1, ?_, ln.2.2⟩
    unfold putG
    rw [any_val, hq, if_pos (show (some (q, rs)).isSome = true from rfl), List.length_map]
    exact ln.2.1
/-- a new name with an empty list -/
theorem StAt.name {n : Str} {q : Addr} (h : StAt K C Z H x dr df ds dl R F S L b) (hn : valG F n = none) (hq : H q = some (.lst [])) (zq : Z q) (nq : ∀ e ∈ F, e.2.1 ≠ q) :
    StAt K C Z (upd H df (.dK (putK (kvF F) (Sum.inr n) (.ref q)))) x dr df ds dl R (F ++ [(n, q, [])]) S L (b + 1) := by
  obtain ⟨⟨dx, ob⟩, r, rt, f, ft, fz, fp, fn, s', st, l, z, ne, nw, ln⟩ := h
  have tk : Tk K H (upd H df (.dK (putK (kvF F) (Sum.inr n) (.ref q)))) := Tk.dK f
  have qd : q ≠ df := fun w => by rw [w, f] at hq; cases hq
  refine ⟨⟨dx, by rw [upd_ne (show x ≠ df from fun w => z.2.2.2.2 (by rw [w]; exact z.2.1))]; exact ob⟩, by rw [upd_ne ne.1]; exact r, fun e m => tk _ _ (rt e m), ?_, fun e m => ?_, fun e m => ?_, ?_, ?_,
    by rw [upd_ne ne.2.2.2.1.symm]; exact s', fun e m => tk _ _ (st e m), by rw [upd_ne ne.2.2.2.2.1.symm]; exact l, z, ne, fun a n => nw a ?_, ?_⟩
  · rw [upd_same]
    have := kvG_put (fun b : Addr × List (Addr × List V) => V.ref b.1) F n (q, [])
    rw [putG_new _ hn] at this
    exact congrArg (fun t => some (HO.dK t)) this
  · rcases List.mem_append.mp m with m | m
    · have n1 : e.2.1 ≠ df := fun w => by
        have := (ft e m).1
        rw [w, f] at this
        cases this
      refine ⟨by rw [upd_ne n1]; exact (ft e m).1, (ft e m).2.1.tk tk, ?_⟩
      have := (ft e m).2.2
      omega
    · rw [List.mem_singleton.mp m]
      exact ⟨by rw [upd_ne qd]; exact hq, (fun _ w => nomatch w), Nat.zero_le _⟩
  · rcases List.mem_append.mp m with m | m
    · exact fz e m
    · rw [List.mem_singleton.mp m]
      exact zq
  · rw [List.pairwise_append]
    refine ⟨fp, List.pairwise_singleton _ _, fun a ma c mc => ?_⟩
    rw [List.mem_singleton.mp mc]
    exact nq a ma
  · rw [List.map_append, List.nodup_append]
    refine ⟨fn, by simp, fun a ma c mc => ?_⟩
    rw [List.mem_singleton.mp mc]
    rintro rfl
    obtain ⟨e, me, ee⟩ := List.mem_map.mp ma
    exact valG_none hn e me ee
  · by_cases w : a = df
    · rw [w, upd_same] at n
      cases n
    · rw [upd_ne w] at n
      exact n
  · rw [List.length_append]
    show _ ∧ F.length + 1 ≤ _ ∧ _
    omega
end
/-- slices of rows are rows -/
theorem cut_rows (rs : List (Addr × List V)) (lo hi : Option Int) : ∃ ts : List (Addr × List V), cutV (rrefs rs) lo hi = rrefs ts ∧ (∀ t ∈ ts, t ∈ rs) ∧ ts = (rs.drop (HT.sIx rs.length 0 lo)).take (HT.sIx rs.length rs.length hi - HT.sIx rs.length 0 lo) := by
  refine ⟨(rs.drop (HT.sIx rs.length 0 lo)).take (HT.sIx rs.length rs.length hi - HT.sIx rs.length 0 lo), ?_, fun t m => List.mem_of_mem_drop (List.mem_of_mem_take m), rfl⟩
  unfold cutV rrefs
  rw [List.map_take, List.map_drop, List.length_map]
end K1
namespace K1
open PySem PySem.Spec PyProof.Rows L2 Ow Tlz
/-! rows as data -/
def scD : V → PyData
  | .int i => .int i
  | .str z => .str z
  | _ => .none
def rowD (xs : List V) : PyData := .tuple (xs.map scD)
def rwsD (rs : List (Addr × List V)) : PyData := .list (rs.map fun t => rowD t.2)
theorem sc_dp {K : PySem.W.Frag} {H : Hp} : ∀ {xs : List V}, (∀ x ∈ xs, Scal x) → DpAll K H xs (xs.map scD)
  | [], _ => .nil
  | x :: xs, h => by
    have h1 := sc_dp (K := K) (H := H) (xs := xs) fun z m => h z (List.mem_cons_of_mem _ m)
    rcases h x List.mem_cons_self with ⟨i, rfl, _⟩ | ⟨z, rfl, _⟩
    · exact .cons (.int i) h1
    · exact .cons (.str z) h1
theorem rws_dp {K : PySem.W.Frag} {H : Hp} : ∀ {rs : List (Addr × List V)}, RowsOk K H rs → DpAll K H (rrefs rs) (rs.map fun t => rowD t.2)
  | [], _ => .nil
  | t :: rs, h => .cons (.tup (h t List.mem_cons_self).1 (sc_dp (h t List.mem_cons_self).2.1)) (rws_dp (rs := rs) fun u m => h u (List.mem_cons_of_mem _ m))
theorem layAll : ∀ {xs : List PyData}, (∀ x ∈ xs, x.canLay0 = true) → PyData.canLayAll0 xs = true
  | [], _ => by simp [PyData.canLayAll0]
  | x :: xs, h => by
    rw [PyData.canLayAll0, h x List.mem_cons_self, layAll fun y m => h y (List.mem_cons_of_mem _ m)]
    rfl
theorem depthAll_le : ∀ {xs : List PyData} {n : Nat}, (∀ x ∈ xs, x.depth ≤ n) → PyData.depthAll xs ≤ n
  | [], n, _ => by simp [PyData.depthAll]
  | x :: xs, n, h => by
    rw [PyData.depthAll]
    exact Nat.max_le.mpr ⟨h x List.mem_cons_self, depthAll_le fun y m => h y (List.mem_cons_of_mem _ m)⟩
theorem sc_lay {v : V} (h : Scal v) : (scD v).canLay0 = true ∧ (scD v).depth = 0 := by
  rcases h with ⟨i, rfl, _⟩ | ⟨z, rfl, p, _⟩
  · simp [scD, PyData.canLay0, PyData.depth]
  · exact ⟨p.ok, by simp [scD, PyData.depth]⟩
theorem row_lay {xs : List V} (h : ∀ x ∈ xs, Scal x) : (rowD xs).canLay0 = true ∧ (rowD xs).depth ≤ 1 := by
  unfold rowD
  rw [PyData.canLay0, PyData.depth]
  refine ⟨layAll fun x mx => ?_, ?_⟩
  · obtain ⟨v, mv, rfl⟩ := List.mem_map.mp mx
    exact (sc_lay (h v mv)).1
  · have : PyData.depthAll (xs.map scD) ≤ 0 := depthAll_le fun x mx => by
      obtain ⟨v, mv, rfl⟩ := List.mem_map.mp mx
      rw [(sc_lay (h v mv)).2]
      exact Nat.le_refl _
    omega
theorem rws_shaped {rs : List (Addr × List V)} (h : ∀ t ∈ rs, ∀ x ∈ t.2, Scal x) : SeqAt.shaped (rwsD rs) = true := by
  unfold SeqAt.shaped rwsD
  rw [PyData.canLay0, PyData.depth]
  have l : PyData.canLayAll0 (rs.map fun t => rowD t.2) = true := layAll fun x mx => by
    obtain ⟨t, mt, rfl⟩ := List.mem_map.mp mx
    exact (row_lay (h t mt)).1
  have e : PyData.depthAll (rs.map fun t => rowD t.2) ≤ 1 := depthAll_le fun x mx => by
    obtain ⟨t, mt, rfl⟩ := List.mem_map.mp mx
    exact (row_lay (h t mt)).2
  rw [l, decide_eq_true (by omega)]
  rfl
theorem row_shaped {xs : List V} (h : ∀ x ∈ xs, Scal x) : SeqAt.shaped (rowD xs) = true := by
  have := row_lay h
  unfold SeqAt.shaped
  rw [this.1, decide_eq_true (by omega)]
  rfl
theorem eqv_sc {x y : V} (sx : Scal x) (sy : Scal y) : PyData.eqv (scD x) (scD y) = decide (x = y) := by
  rcases sx with ⟨i, rfl, _⟩ | ⟨x, rfl, _⟩ <;> rcases sy with ⟨j, rfl, _⟩ | ⟨y, rfl, _⟩
  · simp only [scD, eqv_int]
    by_cases h : i = j
    · subst h; simp
    · rw [decide_eq_false (fun z => h (V.int.inj z))]; simpa using h
  · rw [decide_eq_false (fun z => by cases z)]
    simp only [scD]
    rw [PyData.eqv]
    all_goals (intros; first | contradiction | (rename_i h; cases h))
  · rw [decide_eq_false (fun z => by cases z)]
    simp only [scD]
    rw [PyData.eqv]
    all_goals (intros; first | contradiction | (rename_i h; cases h))
  · simp only [scD, eqv_str]
    by_cases h : x = y
    · subst h; simp
    · rw [decide_eq_false (fun z => h (V.str.inj z))]; simpa using h
theorem eqv_scs : ∀ {xs ys : List V}, (∀ x ∈ xs, Scal x) → (∀ y ∈ ys, Scal y) → PyData.eqvAll (xs.map scD) (ys.map scD) = decide (xs = ys)
  | [], [], _, _ => by rw [List.map_nil, eqv_nil]; rfl
  | [], y :: ys, _, _ => by rw [List.map_nil, List.map_cons, eqv_nc, decide_eq_false (fun z => by cases z)]
  | x :: xs, [], _, _ => by rw [List.map_nil, List.map_cons, eqv_cn, decide_eq_false (fun z => by cases z)]
  | x :: xs, y :: ys, hx, hy => by
    rw [List.map_cons, List.map_cons, eqv_cons, eqv_sc (hx x List.mem_cons_self) (hy y List.mem_cons_self), eqv_scs (fun v m => hx v (List.mem_cons_of_mem _ m)) fun v m => hy v (List.mem_cons_of_mem _ m)]
    by_cases h : x = y
    · subst h
      by_cases g : xs = ys
      · subst g; simp
      · rw [decide_eq_false g, decide_eq_false (fun z => g (List.cons.inj z).2)]; simp
    · rw [decide_eq_false h, decide_eq_false (fun z => h (List.cons.inj z).1)]; rfl
theorem eqv_row {xs ys : List V} (hx : ∀ x ∈ xs, Scal x) (hy : ∀ y ∈ ys, Scal y) : PyData.eqv (rowD xs) (rowD ys) = decide (xs = ys) := by
  unfold rowD
  rw [eqv_tup]
  exact eqv_scs hx hy
theorem eqv_lst (xs ys : List PyData) : PyData.eqv (.list xs) (.list ys) = PyData.eqvAll xs ys := by rw [PyData.eqv]
/-- a fact is put into the table -/
def PutF (F : Fb) (n : Str) (r : Addr) (row : List V) (F' : Fb) : Prop := ∃ (q : Addr) (rs : List (Addr × List V)) (F1 : Fb) (k : Nat),
  ((F1 = F ∧ valG F n = some (q, rs)) ∨ (valG F n = none ∧ rs = [] ∧ F1 = F ++ [(n, q, [])])) ∧ k ≤ rs.length ∧ (Srt rs → Place rs row k) ∧
  ((F' = F1 ∧ ∃ t, rs[k]? = some t ∧ t.2 = row) ∨ (F' = putG F1 n (q, rs.take k ++ [(r, row)] ++ rs.drop k) ∧ ∀ t, rs[k]? = some t → t.2 ≠ row))
def spPutFact (K : PySem.W.Frag) (C : Addr) : Sp := fun vs H Q _ => ∃ (x r : Addr) (n : Str) (row : List V) (dr df ds dl : Addr) (Z : Addr → Prop) (R S : Tb) (F : Fb) (L : List (Str × V)) (b : Nat), vs = [.ref x, .str n, .ref r] ∧
  StAt K C Z H x dr df ds dl R F S L b ∧ b ≤ 900 ∧ SqT K H r row ∧ (∀ v ∈ row, Scal v) ∧ row.length ≤ 10 ∧
  ∀ F' H', PutF F n r row F' → StAt K C Z H' x dr df ds dl R F' S L (b + 1) → Kp Z H H' → Tk K H H' → Q .non H'
abbrev sput_fact : Stmt := topS 6
abbrev Nput_fact : List Str := ["state", "name", "row", "rows", "at"]
theorem scput_fact : FnScope Nput_fact ["state", "name", "row"] (defScope sput_fact) := ⟨rfl, rfl, rfl, by decide +kernel, rfl, by decide +kernel, by decide +kernel⟩
theorem kvF_val (F : Fb) (n : Str) : valV (kvF F) (Sum.inr n) = (valG F n).map fun b => V.ref b.1 := kvG_val _ _ _
section
variable {P : Program} {w : World} {K : PySem.W.Frag} {mg : Str → Option Value} {base : Heap} {C : Addr}
theorem ok_putfact {f : Addr} {fd : FuncData} (F0 : Fun K "put_fact" "put_fact" sput_fact f fd) (T : Bl mg) (X : Txt K mg C)
    (Dplace_of : Kn P w K mg base 3 "place_of" ["rows", "row"] (spPlace K)) :
    FnOk P w K mg base CX0 4 f fd ["state", "name", "row"] (spPutFact K C) := by
  refine F0.ok scput_fact (fun vs H Q E h => ?_) (fun cdv A outer s H vs Q E hr h => ?_)
  · obtain ⟨x, r, n, row, dr, df, ds, dl, Z, R, S, F, L, b, rfl, _⟩ := h
    rfl
  · obtain ⟨x, r, n, row, dr, df, ds, dl, Z, R, S, F, L, b, rfl, st, lb, hrow, srow, lrow, q⟩ := h
    refine ⟨_, (pss_mid (ps_set (i := 3) scput_fact.nd rfl (.inl rfl) (pe_dsetd (pe_fld (pv 0) rfl) (pv 1) (pe_lst pa_nil) ⟨rfl, rfl, rfl, rfl⟩))
      (pss_cons (ps_set (i := 4) scput_fact.nd rfl (.inl rfl) (pe_kn Dplace_of hr (pa_cons (pv 3) (pa_cons (pv 2) pa_nil))))
      (pss_one (ps_if (pt_cmpR (op_neD (hu64 hr)) (pe_slice sl_list (pv 3) (po_some (pv 4)) (po_some (pe_op op_add (pv 4) pe_int))) (pe_lst (pa_cons (pv 2) pa_nil)) (nomark _))
        (pss_one (ps_expr (pe_bm PySem.F.plainAttrs_list PySem.F.slot_list_insert PySem.F.type_list_insert mt_insert (pv 3) (pa_cons (pv 4) (pa_cons (pv 2) pa_nil))))) pss_nil)))), ?_⟩
    refine ⟨fun σ H1 => ∃ (l : Addr) (rs : List (Addr × List V)) (F1 : Fb), σ = [some (.ref x), some (.str n), some (.ref r), some (.ref l), none] ∧ StAt K C Z H1 x dr df ds dl R F1 S L (b + 1) ∧ valG F1 n = some (l, rs) ∧
        ((F1 = F ∧ valG F n = some (l, rs)) ∨ (valG F n = none ∧ rs = [] ∧ F1 = F ++ [(n, l, [])])) ∧ rs.length ≤ b ∧ Kp Z H H1 ∧ Tk K H H1, ?_, ?_⟩
    · obtain ⟨dx, ob⟩ := st.ob
      refine ⟨_, rfl, x, C, dx, _, _, rfl, ob, X.cl, X.nF, flds_f _ _ _ _, df, rfl, .inl ⟨_, .inl st.f⟩, _, rfl, sz 0, fun o no => ?_⟩
      have s1 := Same.new (o := .lst []) no
      have st1 := st.same s1
      have zo := st.nw o no
      refine ⟨kvF F, Sum.inr n, st1.f, rfl, ?_, fun v hv => ?_, fun hv => ?_⟩
      · unfold kvF kvG
        rw [List.length_map]
        exact small (m := 1000) (by have := st.ln; omega) (by decide)
      · rw [kvF_val] at hv
        cases e : valG F n with
        | none => rw [e] at hv; cases hv
        | some a =>
          rw [e] at hv
          have ev : V.ref a.1 = v := Option.some.inj hv
          subst ev
          have m := valG_mem e
          exact ⟨a.1, a.2, F, rfl, st1.up (by omega), e, .inl ⟨rfl, rfl⟩, (st.ft _ m).2.2, Kp.same s1, Tk.same s1⟩
      · rw [kvF_val] at hv
        have e : valG F n = none := by
          cases e : valG F n with
          | none => rfl
          | some a => rw [e] at hv; cases hv
        have nq : ∀ e ∈ F, e.2.1 ≠ o := fun e m w => by
          have := (st.ft e m).1
          rw [w, no] at this
          cases this
        refine ⟨o, [], F ++ [(n, o, [])], rfl, st1.name e upd_same zo nq, ?_, .inr ⟨e, rfl, rfl⟩, Nat.zero_le _, (Kp.same s1).trans (Kp.put st.z.2.1), (Tk.same s1).trans (Tk.dK st1.f)⟩
        refine valG_of ?_ (List.mem_append_right _ (List.mem_singleton.mpr rfl))
        exact (st1.name e upd_same zo nq).fn
    · rintro σ H1 ⟨l, rs, F1, rfl, st1, ev, how, lrs, kp1, tk1⟩
      have m1 := valG_mem ev
      obtain ⟨hl, ro, _⟩ := st1.ft _ m1
      have hl' : H1 l = some (.lst (rrefs rs)) := hl
      have ro' : RowsOk K H1 rs := ro
      have hrow1 := tk1 _ _ hrow
      refine ⟨_, rfl, _, rfl, l, r, rs, row, rfl, SqL.of hl', ro', hrow1, srow, lrow, by omega, fun k H2 lk pl s2 => ?_⟩
      have st2 := st1.same s2
      have hl2 := s2 _ _ hl'
      obtain ⟨ts, ec, mts, ets⟩ := cut_rows rs (some (k : Int)) (some ((k : Int) + 1))
      have i1 : HT.sIx rs.length 0 (some (k : Int)) = k := by rw [HT.sIx_nat]; omega
      have i2 : HT.sIx rs.length rs.length (some ((k : Int) + 1)) = min (k + 1) rs.length := by
        have := HT.sIx_nat rs.length rs.length (k + 1)
        rw [← this]
        rfl
      have one : ts = (rs[k]?).toList := by
        rw [ets, i1, i2]
        by_cases hk : k < rs.length
        · rw [List.getElem?_eq_getElem hk, List.drop_eq_getElem_cons hk]
          have : min (k + 1) rs.length - k = 1 := by omega
          rw [this]
          rfl
        · rw [List.getElem?_eq_none (by omega), List.drop_of_length_le (by omega), List.take_nil]
          rfl
      refine ⟨_, rfl, _, rfl, (k : Int), rfl, _, rfl, (k : Int), 1, rfl, rfl, (k : Int) + 1, rfl, l, rrefs rs, rfl, SqL.of hl2, fun p np => ?_⟩
      rw [ec]
      have s3 := Same.new (o := .lst (rrefs ts)) np
      have e3 := upd_same (H := H2) (a := p) (o := .lst (rrefs ts))
      generalize (upd H2 p (.lst (rrefs ts))) = H3 at *
      refine ⟨_, rfl, sz 1, fun u nu => ?_⟩
      have s4 := Same.new (o := .lst [V.ref r]) nu
      have e4 := upd_same (H := H3) (a := u) (o := .lst [V.ref r])
      generalize (upd H3 u (.lst [V.ref r])) = H4 at *
      have s24 := s3.trans s4
      have st4 := st2.same s24
      have hl4 := s24 _ _ hl2
      have ro4 := (ro'.same s2).same s24
      have hrow4 := Tk.same (s2.trans s24) _ _ hrow1
      have rts : RowsOk K H4 ts := fun t m => ro4 t (mts t m)
      have kp4 : Kp Z H H4 := kp1.trans (Kp.same (s2.trans s24))
      have tk4 : Tk K H H4 := tk1.trans (Tk.same (s2.trans s24))
      refine ⟨rwsD ts, .list [rowD row], .lst (SqL.of (s4 _ _ e3)) (rws_dp rts), .lst (SqL.of e4) (.cons (.tup hrow4 (sc_dp srow)) .nil), rws_shaped fun t m => (rts t m).2.1, ?_, _, rfl, ?_⟩
      · exact rws_shaped (rs := [(r, row)]) fun t m => by
          rw [List.mem_singleton.mp m]
          exact srow
      have eq1 : PyData.eqv (rwsD ts) (.list [rowD row]) = decide (∃ t, rs[k]? = some t ∧ t.2 = row) := by
        unfold rwsD
        rw [one, eqv_lst]
        cases e : rs[k]? with
        | none =>
          rw [decide_eq_false (fun ⟨t, h, _⟩ => by cases h)]
          show PyData.eqvAll [] _ = _
          rw [eqv_nc]
        | some t =>
          have mt := List.mem_of_getElem? e
          show PyData.eqvAll [rowD t.2] [rowD row] = _
          rw [eqv_cons, eqv_nil, Bool.and_true, eqv_row (ro' t mt).2.1 srow]
          refine decide_eq_decide.mpr ⟨fun h => ⟨t, rfl, h⟩, fun ⟨u, hu, h⟩ => ?_⟩
          rw [Option.some.inj hu]
          exact h
      rw [eq1]
      refine ite2 (fun e => ?_) (fun e => ?_)
      · have no1 : ∀ t, rs[k]? = some t → t.2 ≠ row := fun t ht hr => by
          rw [decide_eq_true ⟨t, ht, hr⟩] at e
          cases e
        have hr3 := st4.rows (rs' := rs.take k ++ [(r, row)] ++ rs.drop k) ev (fun t m => by
          rcases List.mem_append.mp m with m | m
          · rcases List.mem_append.mp m with m | m
            · exact ro4 t (List.mem_of_mem_take m)
            · rw [List.mem_singleton.mp m]
              exact ⟨hrow4, srow, lrow⟩
          · exact ro4 t (List.mem_of_mem_drop m)) (by
            rw [List.length_append, List.length_append, List.length_take, List.length_drop]
            show min k rs.length + 1 + (rs.length - k) ≤ b + 1
            omega)
        have er : (rrefs rs).take (k : Int).toNat ++ [V.ref r] ++ (rrefs rs).drop (k : Int).toNat = rrefs (rs.take k ++ [(r, row)] ++ rs.drop k) := by
          unfold rrefs
          rw [List.map_append, List.map_append, List.map_take, List.map_drop]
          rfl
        refine ⟨_, rfl, .inl ⟨rfl, _, .inl (.inl hl4)⟩, _, rfl, _, rfl, l, rrefs rs, (k : Int), .ref r, rfl, rfl, hl4, ?_, by omega, by omega, ?_⟩
        · rw [rrefs_len]
          exact small (m := 1000) (by omega) (by decide)
        · rw [er]
          exact q _ _ ⟨l, rs, F1, k, how, lk, pl, .inr ⟨rfl, no1⟩⟩ hr3.1 (kp4.trans hr3.2.1) (tk4.trans hr3.2.2)
      · have yes : ∃ t, rs[k]? = some t ∧ t.2 = row := by
          by_cases z : ∃ t, rs[k]? = some t ∧ t.2 = row
          · exact z
          · rw [decide_eq_false z] at e
            exact absurd rfl e
        exact q _ _ ⟨l, rs, F1, k, how, lk, pl, .inl ⟨rfl, yes⟩⟩ st4 kp4 tk4
end
end K1
namespace K1
open PySem PySem.Spec PyProof.Rows L2 Ow Tlz
/-! items -/
inductive It where
  | rel (n : Str) (c : List V)
  | fact (n : Str) (r : Addr) (row : List V)
  | str (n : Str) (c : List V)
  | lay (n : Str) (v : V)
def ItAt (K : PySem.W.Frag) (H : Hp) (a : Addr) : It → Prop
  | .rel n c => SqT K H a (.str "relation" :: .str n :: c)
  | .fact n r row => SqT K H a [.str "fact", .str n, .ref r] ∧ SqT K H r row ∧ (∀ v ∈ row, Scal v) ∧ row.length ≤ 10
  | .str n c => SqT K H a (.str "structure" :: .str n :: c)
  | .lay n v => SqT K H a [.str "layout", .str n, v]
theorem ItAt.tk {K : PySem.W.Frag} {H H' : Hp} {a : Addr} {i : It} (t : Tk K H H') (h : ItAt K H a i) : ItAt K H' a i := by
  cases i with
  | rel n c => exact t _ _ h
  | fact n r row => exact ⟨t _ _ h.1, t _ _ h.2.1, h.2.2⟩
  | str n c => exact t _ _ h
  | lay n v => exact t _ _ h
/-- an item is put into the tables -/
def PutI (R : Tb) (F : Fb) (S : Tb) (L : List (Str × V)) (i : It) (R' : Tb) (F' : Fb) (S' : Tb) (L' : List (Str × V)) : Prop := match i with
  | .rel n c => (∃ q, R' = putG R n (q, c)) ∧ (((valG F n).isSome = true ∧ F' = F) ∨ ∃ q, valG F n = none ∧ F' = F ++ [(n, q, [])]) ∧ S' = S ∧ L' = L
  | .fact n r row => PutF F n r row F' ∧ R' = R ∧ S' = S ∧ L' = L
  | .str n c => (∃ q, S' = putG S n (q, c)) ∧ R' = R ∧ F' = F ∧ L' = L
  | .lay n v => L' = putG L n v ∧ R' = R ∧ F' = F ∧ S' = S
def spPutItem (K : PySem.W.Frag) (C : Addr) : Sp := fun vs H Q _ => ∃ (x a : Addr) (i : It) (dr df ds dl : Addr) (Z : Addr → Prop) (R S : Tb) (F : Fb) (L : List (Str × V)) (b : Nat), vs = [.ref x, .ref a] ∧
  StAt K C Z H x dr df ds dl R F S L b ∧ b ≤ 900 ∧ ItAt K H a i ∧
  ∀ R' F' S' L' H', PutI R F S L i R' F' S' L' → StAt K C Z H' x dr df ds dl R' F' S' L' (b + 1) → Kp Z H H' → Tk K H H' → Q .non H'
abbrev sput_item : Stmt := topS 7
abbrev Nput_item : List Str := ["state", "item", "word", "name"]
theorem scput_item : FnScope Nput_item ["state", "item"] (defScope sput_item) := ⟨rfl, rfl, rfl, by decide +kernel, rfl, by decide +kernel, by decide +kernel⟩
section
variable {K : PySem.W.Frag} {C x dr df ds dl : Addr} {Z : Addr → Prop} {H H' : Hp} {R S : Tb} {F : Fb} {L : List (Str × V)} {b : Nat}
theorem none_upd {d : Addr} {o : HO} (nw : ∀ a, H a = none → Z a) : ∀ a, (upd H d o) a = none → Z a := fun a n => by
  by_cases w : a = d
  · rw [w, upd_same] at n
    cases n
  · rw [upd_ne w] at n
    exact nw a n
theorem StAt.rel {n : Str} {q : Addr} {c : List V} (h : StAt K C Z H x dr df ds dl R F S L b) (hq : SqT K H q c) :
    StAt K C Z (upd H dr (.dK (putK (kvR R) (Sum.inr n) (.ref q)))) x dr df ds dl (putG R n (q, c)) F S L (b + 1) := by
  obtain ⟨⟨dx, ob⟩, r, rt, f, ft, fz, fp, fn, s', st, l, z, ne, nw, ln⟩ := h
  have tk : Tk K H (upd H dr (.dK (putK (kvR R) (Sum.inr n) (.ref q)))) := Tk.dK r
  refine ⟨⟨dx, by rw [upd_ne (show x ≠ dr from fun w => z.2.2.2.2 (by rw [w]; exact z.1))]; exact ob⟩, ?_, fun e m => ?_, by rw [upd_ne ne.1.symm]; exact f, fun e m => ?_, fz, fp, fn, by rw [upd_ne ne.2.1.symm]; exact s', fun e m => tk _ _ (st e m),
    by rw [upd_ne ne.2.2.1.symm]; exact l, z, ne, none_upd nw, ?_⟩
  · rw [upd_same]
    have := kvG_put (fun b : Addr × List V => V.ref b.1) R n (q, c)
    exact congrArg (fun t => some (HO.dK t)) this
  · rcases putG_mem m with w | ⟨w, _⟩
    · rw [w]; exact tk _ _ hq
    · exact tk _ _ (rt e w)
  · have n1 : e.2.1 ≠ dr := fun w => by
      have := (ft e m).1
      rw [w, r] at this
      cases this
    exact ⟨by rw [upd_ne n1]; exact (ft e m).1, (ft e m).2.1.tk tk, by have := (ft e m).2.2; omega⟩
  · have := putG_len R n (q, c)
    omega
theorem StAt.stru {n : Str} {q : Addr} {c : List V} (h : StAt K C Z H x dr df ds dl R F S L b) (hq : SqT K H q c) :
    StAt K C Z (upd H ds (.dK (putK (kvR S) (Sum.inr n) (.ref q)))) x dr df ds dl R F (putG S n (q, c)) L (b + 1) := by
  obtain ⟨⟨dx, ob⟩, r, rt, f, ft, fz, fp, fn, s', st, l, z, ne, nw, ln⟩ := h
  have tk : Tk K H (upd H ds (.dK (putK (kvR S) (Sum.inr n) (.ref q)))) := Tk.dK s'
  refine ⟨⟨dx, by rw [upd_ne (show x ≠ ds from fun w => z.2.2.2.2 (by rw [w]; exact z.2.2.1))]; exact ob⟩, by rw [upd_ne ne.2.1]; exact r, fun e m => tk _ _ (rt e m), by rw [upd_ne ne.2.2.2.1]; exact f, fun e m => ?_, fz, fp, fn, ?_, fun e m => ?_,
    by rw [upd_ne ne.2.2.2.2.2.symm]; exact l, z, ne, none_upd nw, ?_⟩
  · have n1 : e.2.1 ≠ ds := fun w => by
      have := (ft e m).1
      rw [w, s'] at this
      cases this
    exact ⟨by rw [upd_ne n1]; exact (ft e m).1, (ft e m).2.1.tk tk, by have := (ft e m).2.2; omega⟩
  · rw [upd_same]
    have := kvG_put (fun b : Addr × List V => V.ref b.1) S n (q, c)
    exact congrArg (fun t => some (HO.dK t)) this
  · rcases putG_mem m with w | ⟨w, _⟩
    · rw [w]; exact tk _ _ hq
    · exact tk _ _ (st e w)
  · have := putG_len S n (q, c)
    omega
theorem StAt.lay {n : Str} {v : V} (h : StAt K C Z H x dr df ds dl R F S L b) :
    StAt K C Z (upd H dl (.dK (putK (kvG id L) (Sum.inr n) v))) x dr df ds dl R F S (putG L n v) (b + 1) := by
  obtain ⟨⟨dx, ob⟩, r, rt, f, ft, fz, fp, fn, s', st, l, z, ne, nw, ln⟩ := h
  have tk : Tk K H (upd H dl (.dK (putK (kvG id L) (Sum.inr n) v))) := Tk.dK l
  refine ⟨⟨dx, by rw [upd_ne (show x ≠ dl from fun w => z.2.2.2.2 (by rw [w]; exact z.2.2.2.1))]; exact ob⟩, by rw [upd_ne ne.2.2.1]; exact r, fun e m => tk _ _ (rt e m), by rw [upd_ne ne.2.2.2.2.1]; exact f, fun e m => ?_, fz, fp, fn,
    by rw [upd_ne ne.2.2.2.2.2]; exact s', fun e m => tk _ _ (st e m), ?_, z, ne, none_upd nw, ?_⟩
  · have n1 : e.2.1 ≠ dl := fun w => by
      have := (ft e m).1
      rw [w, l] at this
      cases this
    exact ⟨by rw [upd_ne n1]; exact (ft e m).1, (ft e m).2.1.tk tk, by have := (ft e m).2.2; omega⟩
  · rw [upd_same]
    exact congrArg (fun t => some (HO.dK t)) (kvG_put id L n v)
  · have := putG_len L n v
    omega
end
theorem kvG_len {β : Type} (vv : β → V) (l : List (Str × β)) : (kvG vv l).length = l.length := by unfold kvG; rw [List.length_map]
theorem cut2 (u v : V) (c : List V) : cutV (u :: v :: c) (some 2) none = c ∧ ¬ (HT.sIx (u :: v :: c).length 0 (some 2) = 0 ∧ HT.sIx (u :: v :: c).length (u :: v :: c).length none = (u :: v :: c).length) := by
  have i1 : HT.sIx (u :: v :: c).length 0 (some 2) = 2 := by
    have := HT.sIx_nat (u :: v :: c).length 0 2
    rw [show ((2 : Nat) : Int) = 2 from rfl] at this
    rw [this, List.length_cons, List.length_cons]
    omega
  refine ⟨?_, fun z => by rw [i1] at z; omega⟩
  unfold cutV
  rw [i1, HT.sIx_none]
  show c.take ((c.length + 1 + 1) - 2) = c
  exact List.take_of_length_le (by omega)
section
variable {P : Program} {w : World} {K : PySem.W.Frag} {mg : Str → Option Value} {base : Heap} {C : Addr}
theorem ok_putitem {f : Addr} {fd : FuncData} (F0 : Fun K "put_item" "put_item" sput_item f fd) (T : Bl mg) (X : Txt K mg C)
    (Dput_fact : Kn P w K mg base 4 "put_fact" ["state", "name", "row"] (spPutFact K C)) :
    FnOk P w K mg base CX0 5 f fd ["state", "item"] (spPutItem K C) := by
  refine F0.ok scput_item (fun vs H Q E h => ?_) (fun cdv A outer s H vs Q E hr h => ?_)
  · obtain ⟨x, a, i, dr, df, ds, dl, Z, R, S, F, L, b, rfl, _⟩ := h
    rfl
  · obtain ⟨x, a, i, dr, df, ds, dl, Z, R, S, F, L, b, rfl, st, lb, hi, q⟩ := h
    have hu := hu_of hr
    refine ⟨_, (pss_cons (ps_set (i := 2) scput_item.nd rfl (.inl rfl) (pe_ix ix_tup (pv 1) pe_int (fun _ _ => rfl)))
      (pss_cons (ps_set (i := 3) scput_item.nd rfl (.inl rfl) (pe_ix ix_tup (pv 1) pe_int (fun _ _ => rfl)))
      (pss_one (ps_if (pt_cmpR op_eq (pv 2) pe_str (nomark _)) (pss_cons (ps_dput hu (pe_fld (pv 0) rfl) (pv 3) (pe_slice sl_tupA (pv 1) (po_some pe_int) po_none) rfl)
      (pss_one (ps_expr (pe_dsetd (pe_fld (pv 0) rfl) (pv 3) (pe_lst pa_nil) ⟨rfl, rfl, rfl, rfl⟩)))) (pss_one (ps_if (pt_cmpR op_eq (pv 2) pe_str (nomark _)) (pss_one (ps_expr (pe_kn Dput_fact hr (pa_cons (pv 0) (pa_cons (pv 3) (pa_cons (pe_ix ix_tup (pv 1) pe_int (fun _ _ => rfl)) pa_nil)))))) (pss_one (ps_if (pt_cmpR op_eq (pv 2) pe_str (nomark _)) (pss_one (ps_dput hu (pe_fld (pv 0) rfl) (pv 3) (pe_slice sl_tupA (pv 1) (po_some pe_int) po_none) rfl)) (pss_one (ps_dput hu (pe_fld (pv 0) rfl) (pv 3) (pe_ix ix_tup (pv 1) pe_int (fun _ _ => rfl)) rfl)))))))))), ?_⟩
    have big : ∀ {β : Type} (vv : β → V) (l : List (Str × β)), l.length ≤ b → (kvG vv l).length < sizeLine := fun vv l hl => by
      rw [kvG_len]
      exact small (m := 1000) (by omega) (by decide)
    have n1 : ∀ {u v : Str}, u ≠ v → ¬ decide (V.str u = V.str v) = true := fun h e => h (V.str.inj (of_decide_eq_true e))
    cases i with
    | rel n c =>
      have ht : SqT K H a (.str "relation" :: .str n :: c) := hi
      obtain ⟨dx, ob⟩ := st.ob
      refine ⟨_, rfl, a, _, 0, _, rfl, rfl, ht, at_of (j := 0) rfl rfl, _, rfl, a, _, 1, _, rfl, rfl, ht, at_of (j := 1) rfl rfl, ?_⟩
      refine ⟨_, rfl, rfl, _, rfl, ite2 (fun _ => ?_) (fun e => absurd (decide_eq_true rfl) e)⟩
      refine ⟨_, rfl, 2, rfl, a, _, rfl, ht, fun w => absurd w (cut2 _ _ c).2, fun _ p np => ?_⟩
      rw [(cut2 _ _ c).1]
      have s1 := Same.new (o := .tup c) np
      have e1 := upd_same (H := H) (a := p) (o := .tup c)
      generalize (upd H p (.tup c)) = H1 at *
      have st1 := st.same s1
      have st2 := st1.rel (n := n) (SqT.of e1)
      have k1 : Kp Z H1 (upd H1 dr (.dK (putK (kvR R) (Sum.inr n) (.ref p)))) := Kp.put st.z.1
      have t1 : Tk K H1 (upd H1 dr (.dK (putK (kvR R) (Sum.inr n) (.ref p)))) := Tk.dK st1.r
      have dp := DPut.k (k := Sum.inr n) (v := .ref p) st1.r (big _ R st.ln.1)
      refine ⟨_, rfl, x, C, dx, _, _, rfl, s1 _ _ ob, X.cl, X.nR, flds_r _ _ _ _, _, rfl, dr, _, rfl, dp, ?_⟩
      have k2 : Kp Z H _ := (Kp.same s1).trans k1
      have t2 : Tk K H _ := (Tk.same s1).trans t1
      generalize (upd H1 dr (.dK (putK (kvR R) (Sum.inr n) (.ref p)))) = H2 at *
      obtain ⟨dx2, ob2⟩ := st2.ob
      refine ⟨_, rfl, x, C, dx2, _, _, rfl, ob2, X.cl, X.nF, flds_f _ _ _ _, df, rfl, .inl ⟨_, .inl st2.f⟩, _, rfl, sz 0, fun o no => ?_⟩
      have s3 := Same.new (o := .lst []) no
      have st3 := st2.same s3
      have zo := st2.nw o no
      have rr : PutI R F S L (.rel n c) (putG R n (p, c)) F S L ∨ valG F n = none := by
        cases e : valG F n with
        | none => exact .inr rfl
        | some v => exact .inl ⟨⟨p, rfl⟩, .inl ⟨by rw [e]; rfl, rfl⟩, rfl, rfl⟩
      refine ⟨kvF F, Sum.inr n, st3.f, rfl, big _ F st.ln.2.1, fun v hv => ?_, fun hv => ?_⟩
      · rcases rr with rr | rr
        · exact q _ _ _ _ _ rr st3 (k2.trans (Kp.same s3)) (t2.trans (Tk.same s3))
        · rw [kvF_val, rr] at hv
          cases hv
      · rw [kvF_val] at hv
        have e : valG F n = none := by
          cases e : valG F n with
          | none => rfl
          | some a => rw [e] at hv; cases hv
        have nq : ∀ e ∈ F, e.2.1 ≠ o := fun e m w => by
          have := (st2.ft e m).1
          rw [w, no] at this
          cases this
        have st4 := st3.name e upd_same zo nq
        obtain ⟨ob, r, rt, f, ft, fz, fp, fn, s', st', l', z, ne, nw, ln⟩ := st4
        have l2 : (putG R n (p, c)).length ≤ b + 1 := by have := putG_len R n (p, c); have := st.ln; omega
        have l3 : (F ++ [(n, o, ([] : List (Addr × List V)))]).length ≤ b + 1 := by rw [List.length_append]; have := st.ln; show F.length + 1 ≤ _; omega
        have l4 := st.ln
        refine q _ _ _ _ _ ⟨⟨p, rfl⟩, .inr ⟨o, e, rfl⟩, rfl, rfl⟩ ⟨ob, r, rt, f, fun u m => ⟨(ft u m).1, (ft u m).2.1, ?_⟩, fz, fp, fn, s', st', l', z, ne, nw, l2, l3, by omega, by omega⟩
          ((k2.trans (Kp.same s3)).trans (Kp.put st.z.2.1)) ((t2.trans (Tk.same s3)).trans (Tk.dK st3.f))
        rcases List.mem_append.mp m with m | m
        · have := (st.ft u m).2.2
          omega
        · rw [List.mem_singleton.mp m]
          exact Nat.zero_le _
    | fact n r row =>
      obtain ⟨ht, hrow, srow, lrow⟩ := hi
      refine ⟨_, rfl, a, _, 0, _, rfl, rfl, ht, at_of (j := 0) rfl rfl, _, rfl, a, _, 1, _, rfl, rfl, ht, at_of (j := 1) rfl rfl, ?_⟩
      refine ⟨_, rfl, rfl, _, rfl, ite2 (fun e => absurd e (n1 (by decide +kernel))) (fun _ => ?_)⟩
      refine ⟨_, rfl, rfl, _, rfl, ite2 (fun _ => ?_) (fun e => absurd (decide_eq_true rfl) e)⟩
      refine ⟨_, rfl, _, rfl, _, rfl, a, _, 2, _, rfl, rfl, ht, at_of (j := 2) rfl rfl, x, r, n, row, dr, df, ds, dl, Z, R, S, F, L, b, rfl, st, lb, hrow, srow, lrow, fun F' H' pf st' kp tk => ?_⟩
      exact q _ _ _ _ _ ⟨pf, rfl, rfl, rfl⟩ st' kp tk
    | str n c =>
      have ht : SqT K H a (.str "structure" :: .str n :: c) := hi
      obtain ⟨dx, ob⟩ := st.ob
      refine ⟨_, rfl, a, _, 0, _, rfl, rfl, ht, at_of (j := 0) rfl rfl, _, rfl, a, _, 1, _, rfl, rfl, ht, at_of (j := 1) rfl rfl, ?_⟩
      refine ⟨_, rfl, rfl, _, rfl, ite2 (fun e => absurd e (n1 (by decide +kernel))) (fun _ => ?_)⟩
      refine ⟨_, rfl, rfl, _, rfl, ite2 (fun e => absurd e (n1 (by decide +kernel))) (fun _ => ?_)⟩
      refine ⟨_, rfl, rfl, _, rfl, ite2 (fun _ => ?_) (fun e => absurd (decide_eq_true rfl) e)⟩
      refine ⟨_, rfl, 2, rfl, a, _, rfl, ht, fun w => absurd w (cut2 _ _ c).2, fun _ p np => ?_⟩
      rw [(cut2 _ _ c).1]
      have s1 := Same.new (o := .tup c) np
      have e1 := upd_same (H := H) (a := p) (o := .tup c)
      generalize (upd H p (.tup c)) = H1 at *
      have st1 := st.same s1
      have st2 := st1.stru (n := n) (SqT.of e1)
      have dp := DPut.k (k := Sum.inr n) (v := .ref p) st1.s (big _ S st.ln.2.2.1)
      refine ⟨_, rfl, x, C, dx, _, _, rfl, s1 _ _ ob, X.cl, X.nS, flds_s _ _ _ _, _, rfl, ds, _, rfl, dp, ?_⟩
      exact q _ _ _ _ _ ⟨⟨p, rfl⟩, rfl, rfl, rfl⟩ st2 ((Kp.same s1).trans (Kp.put st.z.2.2.1)) ((Tk.same s1).trans (Tk.dK st1.s))
    | lay n v =>
      have ht : SqT K H a [.str "layout", .str n, v] := hi
      obtain ⟨dx, ob⟩ := st.ob
      refine ⟨_, rfl, a, _, 0, _, rfl, rfl, ht, at_of (j := 0) rfl rfl, _, rfl, a, _, 1, _, rfl, rfl, ht, at_of (j := 1) rfl rfl, ?_⟩
      refine ⟨_, rfl, rfl, _, rfl, ite2 (fun e => absurd e (n1 (by decide +kernel))) (fun _ => ?_)⟩
      refine ⟨_, rfl, rfl, _, rfl, ite2 (fun e => absurd e (n1 (by decide +kernel))) (fun _ => ?_)⟩
      refine ⟨_, rfl, rfl, _, rfl, ite2 (fun e => absurd e (n1 (by decide +kernel))) (fun _ => ?_)⟩
      have dp := DPut.k (k := Sum.inr n) (v := v) st.l (big _ L st.ln.2.2.2)
      refine ⟨_, rfl, a, _, 2, _, rfl, rfl, ht, at_of (j := 2) rfl rfl, _, rfl, x, C, dx, _, _, rfl, ob, X.cl, X.nL, flds_l _ _ _ _, _, rfl, dl, _, rfl, dp, ?_⟩
      exact q _ _ _ _ _ ⟨rfl, rfl, rfl, rfl⟩ st.lay (Kp.put st.z.2.2.2.1) (Tk.dK st.l)
end
end K1
namespace K1
open PySem PySem.Spec PyProof.Rows L2 Ow Tlz
theorem SqL.gw {K : PySem.W.Frag} {H H' : Hp} {x a C dx : Addr} {fs : List (Str × V)} {xs : List V} (e : H x = some (.ins C dx fs)) (g : Gw x H H') (h : SqL K H a xs) : SqL K H' a xs := by
  rcases h with (h | ⟨o, h⟩) | h
  · exact .inl (.inl (g _ _ (fun z => by rw [z, e] at h; cases h) h))
  · exact .inl (.inr ⟨o, g _ _ (fun z => by rw [z, e] at h; cases h) h⟩)
  · exact .inr h
theorem Tk.gwi {K : PySem.W.Frag} {H H' : Hp} {x C dx : Addr} {fs : List (Str × V)} (e : H x = some (.ins C dx fs)) (g : Gw x H H') : Tk K H H' := by
  refine ⟨fun a xs h => ?_, fun a xs ⟨o, h, d⟩ => ⟨o, g _ _ (fun z => by rw [z, e] at h; cases h) h, d⟩⟩
  rcases h with (h | ⟨o, h⟩) | h
  · exact .inl (.inl (g _ _ (fun z => by rw [z, e] at h; cases h) h))
  · exact .inl (.inr ⟨o, g _ _ (fun z => by rw [z, e] at h; cases h) h⟩)
  · exact .inr h
/-- the tables behind some items, put one after another -/
inductive Puts : List It → Tb → Fb → Tb → List (Str × V) → Prop
  | nil : Puts [] [] [] [] []
  | snoc {is : List It} {i : It} {R S R' S' : Tb} {F F' : Fb} {L L' : List (Str × V)} : Puts is R F S L → PutI R F S L i R' F' S' L' → Puts (is ++ [i]) R' F' S' L'
theorem putF_len (f : Str) (v : V) : ∀ fs : List (Str × V), (putF f v fs).length ≤ fs.length + 1
  | [] => Nat.le_refl _
  | (g, x) :: r => by
    rw [putF]
    split
    · exact Nat.le_succ _
    · exact Nat.succ_le_succ (putF_len f v r)
def spInit (K : PySem.W.Frag) (C : Addr) : Sp := fun vs H Q _ => ∃ (x a dx : Addr) (its : List (Addr × It)), vs = [.ref x, .ref a] ∧ H x = some (.ins C dx []) ∧ SqL K H a (its.map fun t => .ref t.1) ∧ (∀ t ∈ its, ItAt K H t.1 t.2) ∧ its.length ≤ 300 ∧
  ∀ (dr df ds dl : Addr) (R S : Tb) (F : Fb) (L : List (Str × V)) H', StAt K C (fun b => H b = none) H' x dr df ds dl R F S L 300 → Puts (its.map (·.2)) R F S L → Gw x H H' → Q .non H'
def spInit0 (K : PySem.W.Frag) (C : Addr) : Sp := fun vs H Q _ => ∃ (x a dx : Addr), vs = [.ref x, .ref a] ∧ H x = some (.ins C dx []) ∧ SqT K H a [] ∧
  ∀ (dr df ds dl : Addr) H', StAt K C (fun b => H b = none) H' x dr df ds dl [] [] [] [] 300 → Gw x H H' → Q .non H'
abbrev sState : Stmt := topS 8
abbrev sInit : Stmt := inClass sState 0
abbrev NInit : List Str := ["self", "items", "item"]
theorem scInit : FnScope NInit ["self", "items"] (defScope sInit) := ⟨rfl, rfl, rfl, by decide +kernel, rfl, by decide +kernel, by decide +kernel⟩
/-- the four fields of a new State -/
structure New (C : Addr) (H H' : Hp) (x d1 d2 d3 d4 : Addr) : Prop where
  ob : ∃ dx, H' x = some (.ins C dx (flds (.ref d1) (.ref d2) (.ref d3) (.ref d4)))
  e1 : H' d1 = some (.dK [])
  e2 : H' d2 = some (.dK [])
  e3 : H' d3 = some (.dK [])
  e4 : H' d4 = some (.dK [])
  n1 : H d1 = none
  n2 : H d2 = none
  n3 : H d3 = none
  n4 : H d4 = none
  ne : d1 ≠ d2 ∧ d1 ≠ d3 ∧ d1 ≠ d4 ∧ d2 ≠ d3 ∧ d2 ≠ d4 ∧ d3 ≠ d4
  gw : Gw x H H'
theorem New.st {K : PySem.W.Frag} {C : Addr} {H H' : Hp} {x dx d1 d2 d3 d4 : Addr} (n : New C H H' x d1 d2 d3 d4) (hx : H x = some (.ins C dx [])) : StAt K C (fun b => H b = none) H' x d1 d2 d3 d4 [] [] [] [] 0 :=
  ⟨n.ob, n.e1, (fun _ m => nomatch m), n.e2, (fun _ m => nomatch m), (fun _ m => nomatch m), .nil, .nil, n.e3, (fun _ m => nomatch m), n.e4, ⟨n.n1, n.n2, n.n3, n.n4, by rw [hx]; exact fun z => nomatch z⟩, n.ne,
    fun a h => by
      by_cases w : a = x
      · obtain ⟨dx, ob⟩ := n.ob
        rw [w, ob] at h
        cases h
      · exact n.gw.free h w, ⟨Nat.le_refl _, Nat.le_refl _, Nat.le_refl _, Nat.le_refl _⟩⟩
theorem fund_ok {P : Program} {w : World} {K : PySem.W.Frag} {mg : Str → Option Value} {base : Heap} {x qual : Str} {st : Stmt} {dvs : List V} {kws : List (Str × V)} {f : Addr} {fd : FuncData} {N ps : List Str} {k : Nat} {sp : Sp}
    (F : FunD K x qual (defArgs st) (defBody st) (defScope st) dvs kws f fd) (S : FnScope N ps (defScope st)) (len : ∀ vs H Q E, sp vs H Q E → vs.length = ps.length)
    (hbody : ∀ (cdv : Value) (A : Around) (outer : List Env) (s : Shared) (H : Hp) (vs : List V) (Q : VK) (E : XK), Room k (A.deeper (envOfC qual (defScope st) s.heap.objs.size f cdv)) → sp vs H Q E →
      ∃ t, PSs (cxOf CX0 P w K mg base N qual (defScope st) f cdv A outer s H E).nox (defBody st) t ∧ t { nx := fun _ H' => Q .non H', rt := Q } (start N vs) H) : FnOk P w K mg base CX0 (k + 1) f fd ps sp := by
  refine F.ok S len fun cdv A outer s H vs Q E hr hsp => ?_
  obtain ⟨t, h, q⟩ := hbody cdv A outer s H vs Q E hr hsp
  exact ⟨t, h.nox, q⟩
section
variable {P : Program} {w : World} {K : PySem.W.Frag} {mg : Str → Option Value} {base : Heap} {C : Addr}
theorem ok_init {f : Addr} {fd : FuncData} {dvs : List V} {kws : List (Str × V)} (F0 : FunD K "__init__" "State.__init__" (defArgs sInit) (defBody sInit) (defScope sInit) dvs kws f fd) (T : Txt K mg C)
    (Dput_item : Kn P w K mg base 5 "put_item" ["state", "item"] (spPutItem K C)) :
    FnOk P w K mg base CX0 6 f fd ["self", "items"] (spInit K C) := by
  refine fund_ok F0 scInit (fun vs H Q E h => ?_) (fun cdv A outer s H vs Q E hr h => ?_)
  · obtain ⟨x, a, dx, its, rfl, _⟩ := h
    rfl
  · obtain ⟨x, a, dx, its, rfl, hx, ha, hi, li, q⟩ := h
    refine ⟨_, (pss_cons (ps_fld (pv 0) pe_dnewK rfl) (pss_cons (ps_fld (pv 0) pe_dnewK rfl) (pss_cons (ps_fld (pv 0) pe_dnewK rfl) (pss_cons (ps_fld (pv 0) pe_dnewK rfl)
      (pss_one (ps_for PassesOwn.never rfl (pi_list (pv 1)) (pg_name (i := 2) scInit.nd rfl (.inl rfl)) (pss_one (ps_expr (pe_kn Dput_item hr (pa_cons (pv 0) (pa_cons (pv 2) pa_nil))))))))))), ?_⟩
    refine fun d1 h1 => ?_
    have x1 : x ≠ d1 := ne_of_none hx h1
    refine ⟨_, rfl, x, C, dx, [], rfl, (by rw [upd_ne x1]; exact hx), T.cl, T.nR, (by show 0 < 1000; decide), ?_⟩
    refine fun d2 h2 => ?_
    have x2 : x ≠ d2 := ne_of_none upd_same h2
    refine ⟨_, rfl, x, C, dx, _, rfl, (by rw [upd_ne x2]; exact upd_same), T.cl, T.nF, (by show 1 < 1000; decide), ?_⟩
    refine fun d3 h3 => ?_
    have x3 : x ≠ d3 := ne_of_none upd_same h3
    refine ⟨_, rfl, x, C, dx, _, rfl, (by rw [upd_ne x3]; exact upd_same), T.cl, T.nS, (by
      have : (putF "facts" (V.ref d2) (putF "relations" (V.ref d1) [])).length ≤ 2 := by
        have := putF_len "facts" (V.ref d2) (putF "relations" (V.ref d1) [])
        exact Nat.le_trans this (Nat.succ_le_succ (putF_len "relations" (V.ref d1) []))
      exact Nat.lt_of_le_of_lt this (by decide)), ?_⟩
    refine fun d4 h4 => ?_
    have x4 : x ≠ d4 := ne_of_none upd_same h4
    refine ⟨_, rfl, x, C, dx, _, rfl, (by rw [upd_ne x4]; exact upd_same), T.cl, T.nL, (by
      have a1 := putF_len "structures" (V.ref d3) (putF "facts" (V.ref d2) (putF "relations" (V.ref d1) []))
      have a2 := putF_len "facts" (V.ref d2) (putF "relations" (V.ref d1) [])
      have a3 := putF_len "relations" (V.ref d1) []
      have a4 : ([] : List (Str × V)).length = 0 := rfl
      omega), ?_⟩
    have nw : New C H (upd (upd (upd (upd (upd (upd (upd (upd H d1 (.dK [])) x (.ins C dx (putF "relations" (.ref d1) []))) d2 (.dK [])) x (.ins C dx (putF "facts" (.ref d2) (putF "relations" (.ref d1) [])))) d3 (.dK [])) x
        (.ins C dx (putF "structures" (.ref d3) (putF "facts" (.ref d2) (putF "relations" (.ref d1) []))))) d4 (.dK [])) x (.ins C dx (putF "layouts" (.ref d4) (putF "structures" (.ref d3) (putF "facts" (.ref d2) (putF "relations" (.ref d1) [])))))) x d1 d2 d3 d4 := by
      have f2 : (upd H d1 (.dK [])) d2 = none := by rw [← upd_ne (H := upd H d1 (.dK [])) (a := x) (o := .ins C dx (putF "relations" (.ref d1) [])) x2.symm]; exact h2
      have n12 : d1 ≠ d2 := ne_of_none upd_same f2
      have f2' : H d2 = none := by rw [← upd_ne (H := H) (a := d1) (o := .dK []) n12.symm]; exact f2
      have f3a := h3
      rw [upd_ne x3.symm] at f3a
      have n23 : d2 ≠ d3 := ne_of_none upd_same f3a
      have f3b : (upd H d1 (.dK [])) d3 = none := by
        rw [upd_ne n23.symm, upd_ne x3.symm] at f3a
        exact f3a
      have n13 : d1 ≠ d3 := ne_of_none upd_same f3b
      have f3' : H d3 = none := by rw [upd_ne n13.symm] at f3b; exact f3b
      rw [upd_ne x4.symm] at h4
      have n34 : d3 ≠ d4 := ne_of_none upd_same h4
      rw [upd_ne n34.symm, upd_ne x4.symm] at h4
      have n24 : d2 ≠ d4 := ne_of_none upd_same h4
      rw [upd_ne n24.symm, upd_ne x4.symm] at h4
      have n14 : d1 ≠ d4 := ne_of_none upd_same h4
      rw [upd_ne n14.symm] at h4
      refine ⟨⟨dx, upd_same⟩, ?_, ?_, ?_, ?_, h1, f2', f3', h4, ⟨n12, n13, n14, n23, n24, n34⟩, ?_⟩
      · rw [upd_ne x1.symm, upd_ne n14, upd_ne x1.symm, upd_ne n13, upd_ne x1.symm, upd_ne n12, upd_ne x1.symm, upd_same]
      · rw [upd_ne x2.symm, upd_ne n24, upd_ne x2.symm, upd_ne n23, upd_ne x2.symm, upd_same]
      · rw [upd_ne x3.symm, upd_ne n34, upd_ne x3.symm, upd_same]
      · rw [upd_ne x4.symm, upd_same]
      · intro b o hb e
        rw [upd_ne hb, upd_ne (ne_of_none e h4), upd_ne hb, upd_ne (ne_of_none e f3'), upd_ne hb, upd_ne (ne_of_none e f2'), upd_ne hb, upd_ne (ne_of_none e h1)]
        exact e
    generalize (upd (upd (upd (upd (upd (upd (upd (upd H d1 (.dK [])) x (.ins C dx (putF "relations" (.ref d1) []))) d2 (.dK [])) x (.ins C dx (putF "facts" (.ref d2) (putF "relations" (.ref d1) [])))) d3 (.dK [])) x
        (.ins C dx (putF "structures" (.ref d3) (putF "facts" (.ref d2) (putF "relations" (.ref d1) []))))) d4 (.dK [])) x (.ins C dx (putF "layouts" (.ref d4) (putF "structures" (.ref d3) (putF "facts" (.ref d2) (putF "relations" (.ref d1) [])))))) = H1 at nw
    have st0 := nw.st (K := K) hx
    have sl1 := SqL.gw hx nw.gw ha
    refine ⟨_, rfl, a, rfl, ⟨_, sl1⟩, for_list (K := K) (a := a) (xs := its.map fun t => .ref t.1) (fun i σ H4 => ∃ (y2 : Option V) (R S : Tb) (F : Fb) (L : List (Str × V)), σ = [some (.ref x), some (.ref a), y2] ∧
        StAt K C (fun b => H b = none) H4 x d1 d2 d3 d4 R F S L i ∧ Puts ((its.take i).map (·.2)) R F S L ∧ Gw x H H4)
      ⟨none, [], [], [], [], rfl, st0, .nil, nw.gw⟩ (fun i σ H4 _ hP => ?_) (fun i y σ H4 hy hP => ?_) (fun σ H4 hP => ?_)⟩
    · obtain ⟨_, _, _, _, _, _, _, _, g⟩ := hP
      exact SqL.gw hx g ha
    · obtain ⟨y2, R, S, F, L, rfl, st, pu, g⟩ := hP
      rw [List.getElem?_map] at hy
      cases e : its[i]? with
      | none => rw [e] at hy; cases hy
      | some t =>
        rw [e] at hy
        have ey : V.ref t.1 = y := Option.some.inj hy
        subst ey
        have il : i < its.length := (List.getElem?_eq_some_iff.mp e).1
        refine ⟨_, rfl, _, rfl, x, t.1, t.2, d1, d2, d3, d4, _, R, S, F, L, i, rfl, st, by omega, (hi t (List.mem_of_getElem? e)).tk (Tk.gwi hx g), fun R' F' S' L' H' pi st' kp tk => ?_⟩
        refine ⟨_, R', S', F', L', rfl, st', ?_, fun b o nb hb => kp b o (fun (z : H b = none) => by rw [hb] at z; cases z) (g b o nb hb)⟩
        have e2 : its.take (i + 1) = its.take i ++ [t] := by rw [List.take_add_one, e]; rfl
        rw [e2, List.map_append]
        exact .snoc pu pi
    · obtain ⟨y2, R, S, F, L, rfl, st, pu, g⟩ := hP
      rw [List.length_map] at st pu
      rw [List.take_length] at pu
      exact q _ _ _ _ _ _ _ _ _ (st.up (by omega)) pu g
theorem ok_init0 {f : Addr} {fd : FuncData} {dvs : List V} {kws : List (Str × V)} (F0 : FunD K "__init__" "State.__init__" (defArgs sInit) (defBody sInit) (defScope sInit) dvs kws f fd) (T : Txt K mg C)
    (Dput_item : Kn P w K mg base 5 "put_item" ["state", "item"] (spPutItem K C)) :
    FnOk P w K mg base CX0 6 f fd ["self", "items"] (spInit0 K C) := by
  refine fund_ok F0 scInit (fun vs H Q E h => ?_) (fun cdv A outer s H vs Q E hr h => ?_)
  · obtain ⟨x, a, dx, rfl, _⟩ := h
    rfl
  · obtain ⟨x, a, dx, rfl, hx, ha, q⟩ := h
    refine ⟨_, (pss_cons (ps_fld (pv 0) pe_dnewK rfl) (pss_cons (ps_fld (pv 0) pe_dnewK rfl) (pss_cons (ps_fld (pv 0) pe_dnewK rfl) (pss_cons (ps_fld (pv 0) pe_dnewK rfl)
      (pss_one (ps_for PassesOwn.never rfl (pi_tup (pv 1)) (pg_name (i := 2) scInit.nd rfl (.inl rfl)) (pss_one (ps_expr (pe_kn Dput_item hr (pa_cons (pv 0) (pa_cons (pv 2) pa_nil))))))))))), ?_⟩
    refine fun d1 h1 => ?_
    have x1 : x ≠ d1 := ne_of_none hx h1
    refine ⟨_, rfl, x, C, dx, [], rfl, (by rw [upd_ne x1]; exact hx), T.cl, T.nR, (by show 0 < 1000; decide), ?_⟩
    refine fun d2 h2 => ?_
    have x2 : x ≠ d2 := ne_of_none upd_same h2
    refine ⟨_, rfl, x, C, dx, _, rfl, (by rw [upd_ne x2]; exact upd_same), T.cl, T.nF, (by show 1 < 1000; decide), ?_⟩
    refine fun d3 h3 => ?_
    have x3 : x ≠ d3 := ne_of_none upd_same h3
    refine ⟨_, rfl, x, C, dx, _, rfl, (by rw [upd_ne x3]; exact upd_same), T.cl, T.nS, (by
      have : (putF "facts" (V.ref d2) (putF "relations" (V.ref d1) [])).length ≤ 2 := by
        have := putF_len "facts" (V.ref d2) (putF "relations" (V.ref d1) [])
        exact Nat.le_trans this (Nat.succ_le_succ (putF_len "relations" (V.ref d1) []))
      exact Nat.lt_of_le_of_lt this (by decide)), ?_⟩
    refine fun d4 h4 => ?_
    have x4 : x ≠ d4 := ne_of_none upd_same h4
    refine ⟨_, rfl, x, C, dx, _, rfl, (by rw [upd_ne x4]; exact upd_same), T.cl, T.nL, (by
      have a1 := putF_len "structures" (V.ref d3) (putF "facts" (V.ref d2) (putF "relations" (V.ref d1) []))
      have a2 := putF_len "facts" (V.ref d2) (putF "relations" (V.ref d1) [])
      have a3 := putF_len "relations" (V.ref d1) []
      have a4 : ([] : List (Str × V)).length = 0 := rfl
      omega), ?_⟩
    have nw : New C H (upd (upd (upd (upd (upd (upd (upd (upd H d1 (.dK [])) x (.ins C dx (putF "relations" (.ref d1) []))) d2 (.dK [])) x (.ins C dx (putF "facts" (.ref d2) (putF "relations" (.ref d1) [])))) d3 (.dK [])) x
        (.ins C dx (putF "structures" (.ref d3) (putF "facts" (.ref d2) (putF "relations" (.ref d1) []))))) d4 (.dK [])) x (.ins C dx (putF "layouts" (.ref d4) (putF "structures" (.ref d3) (putF "facts" (.ref d2) (putF "relations" (.ref d1) [])))))) x d1 d2 d3 d4 := by
      have f2 : (upd H d1 (.dK [])) d2 = none := by rw [← upd_ne (H := upd H d1 (.dK [])) (a := x) (o := .ins C dx (putF "relations" (.ref d1) [])) x2.symm]; exact h2
      have n12 : d1 ≠ d2 := ne_of_none upd_same f2
      have f2' : H d2 = none := by rw [← upd_ne (H := H) (a := d1) (o := .dK []) n12.symm]; exact f2
      have f3a := h3
      rw [upd_ne x3.symm] at f3a
      have n23 : d2 ≠ d3 := ne_of_none upd_same f3a
      have f3b : (upd H d1 (.dK [])) d3 = none := by
        rw [upd_ne n23.symm, upd_ne x3.symm] at f3a
        exact f3a
      have n13 : d1 ≠ d3 := ne_of_none upd_same f3b
      have f3' : H d3 = none := by rw [upd_ne n13.symm] at f3b; exact f3b
      rw [upd_ne x4.symm] at h4
      have n34 : d3 ≠ d4 := ne_of_none upd_same h4
      rw [upd_ne n34.symm, upd_ne x4.symm] at h4
      have n24 : d2 ≠ d4 := ne_of_none upd_same h4
      rw [upd_ne n24.symm, upd_ne x4.symm] at h4
      have n14 : d1 ≠ d4 := ne_of_none upd_same h4
      rw [upd_ne n14.symm] at h4
      refine ⟨⟨dx, upd_same⟩, ?_, ?_, ?_, ?_, h1, f2', f3', h4, ⟨n12, n13, n14, n23, n24, n34⟩, ?_⟩
      · rw [upd_ne x1.symm, upd_ne n14, upd_ne x1.symm, upd_ne n13, upd_ne x1.symm, upd_ne n12, upd_ne x1.symm, upd_same]
      · rw [upd_ne x2.symm, upd_ne n24, upd_ne x2.symm, upd_ne n23, upd_ne x2.symm, upd_same]
      · rw [upd_ne x3.symm, upd_ne n34, upd_ne x3.symm, upd_same]
      · rw [upd_ne x4.symm, upd_same]
      · intro b o hb e
        rw [upd_ne hb, upd_ne (ne_of_none e h4), upd_ne hb, upd_ne (ne_of_none e f3'), upd_ne hb, upd_ne (ne_of_none e f2'), upd_ne hb, upd_ne (ne_of_none e h1)]
        exact e
    generalize (upd (upd (upd (upd (upd (upd (upd (upd H d1 (.dK [])) x (.ins C dx (putF "relations" (.ref d1) []))) d2 (.dK [])) x (.ins C dx (putF "facts" (.ref d2) (putF "relations" (.ref d1) [])))) d3 (.dK [])) x
        (.ins C dx (putF "structures" (.ref d3) (putF "facts" (.ref d2) (putF "relations" (.ref d1) []))))) d4 (.dK [])) x (.ins C dx (putF "layouts" (.ref d4) (putF "structures" (.ref d3) (putF "facts" (.ref d2) (putF "relations" (.ref d1) [])))))) = H1 at nw
    have st0 := nw.st (K := K) hx
    have sl1 := Tk.gwi hx nw.gw _ _ ha
    refine ⟨_, rfl, a, rfl, ⟨_, sl1⟩, for_tup (K := K) (a := a) (xs := []) (fun i σ H4 => H4 = H1) rfl (fun i σ H4 _ hP => ?_) (fun i y σ H4 hy hP => ?_) (fun σ H4 hP => ?_)⟩
    · rw [hP]; exact sl1
    · cases hy
    · rw [hP]
      exact q _ _ _ _ _ (st0.up (by decide)) nw.gw
end
end K1
namespace K1
open PySem PySem.Spec PyProof.Rows L2 Ow Tlz
/-! the order of rows and keys -/
theorem order_zero : ∀ {xs ys : List V}, (∀ x ∈ xs, Scal x) → (∀ y ∈ ys, Scal y) → (orderV xs ys = 0 ↔ xs = ys)
  | [], [], _, _ => by simp [orderV]
  | [], y :: ys, _, _ => by simp [orderV]
  | x :: xs, [], _, _ => by simp [orderV]
  | x :: xs, y :: ys, hx, hy => by
    have sx := hx x List.mem_cons_self
    have sy := hy y List.mem_cons_self
    have ih := order_zero (xs := xs) (ys := ys) (fun v m => hx v (List.mem_cons_of_mem _ m)) fun v m => hy v (List.mem_cons_of_mem _ m)
    rw [order_cons]
    rcases first_tot sx sy with h | h | h
    · rw [if_pos h]
      refine ⟨fun z => absurd z (by decide), fun z => ?_⟩
      have e := (List.cons.inj z).1
      subst e
      rw [first_irr sx] at h
      exact absurd h Bool.false_ne_true
    · subst h
      rw [first_irr sx, if_neg Bool.false_ne_true, if_neg Bool.false_ne_true, ih]
      exact ⟨fun z => by rw [z], fun z => (List.cons.inj z).2⟩
    · have h2 := first_asym sy sx h
      rw [h2, if_neg Bool.false_ne_true, if_pos h]
      refine ⟨fun z => absurd z (by decide), fun z => ?_⟩
      have e := (List.cons.inj z).1
      subst e
      rw [first_irr sx] at h
      exact absurd h Bool.false_ne_true
theorem rlt_tot : ∀ {xs ys : List V}, (∀ x ∈ xs, Scal x) → (∀ y ∈ ys, Scal y) → Rlt xs ys ∨ xs = ys ∨ Rlt ys xs
  | [], [], _, _ => .inr (.inl rfl)
  | [], y :: ys, _, _ => .inl (by unfold Rlt orderV; decide)
  | x :: xs, [], _, _ => .inr (.inr (by unfold Rlt orderV; decide))
  | x :: xs, y :: ys, hx, hy => by
    have sx := hx x List.mem_cons_self
    have sy := hy y List.mem_cons_self
    rw [rlt_cons sx sy, rlt_cons sy sx]
    rcases first_tot sx sy with h | h | h
    · exact .inl (.inl h)
    · subst h
      rcases rlt_tot (xs := xs) (ys := ys) (fun v m => hx v (List.mem_cons_of_mem _ m)) fun v m => hy v (List.mem_cons_of_mem _ m) with h | h | h
      · exact .inl (.inr ⟨rfl, h⟩)
      · exact .inr (.inl (by rw [h]))
      · exact .inr (.inr (.inr ⟨rfl, h⟩))
    · exact .inr (.inr (.inl h))
theorem rlt_asym {xs ys : List V} (hx : ∀ x ∈ xs, Scal x) (hy : ∀ y ∈ ys, Scal y) (h : Rlt xs ys) (g : Rlt ys xs) : False := rlt_irr hx (rlt_trans hx hy hx h g)
abbrev Kt := Int × Str × List V × List V
def tOrd (a b : Kt) : Int := keyOrd a.1 a.2.1 a.2.2.1 b.1 b.2.1 b.2.2.1
def tLt (a b : Kt) : Prop := tOrd a b < 0
instance (a b : Kt) : Decidable (tLt a b) := inferInstanceAs (Decidable (_ < _))
def tEq (a b : Kt) : Prop := a.1 = b.1 ∧ a.2.1 = b.2.1 ∧ a.2.2.1 = b.2.2.1
def tSc (a : Kt) : Prop := ∀ x ∈ a.2.2.1, Scal x
theorem key_e (s s' : Int) (n n' : Str) (xs ys : List V) : keyOrd s n xs s' n' ys = if s = s' then (if n = n' then orderV xs ys else if n.cps.toList < n'.cps.toList then -1 else 1) else if s < s' then -1 else 1 := by
  have e2 : PyData.eqv (kd2 s n) (kd2 s' n') = ((s == s') && (n == n')) := by
    unfold kd2
    rw [eqv_tup, eqv_cons, eqv_cons, eqv_nil, eqv_int, eqv_str, Bool.and_true]
  have l2 : ltD 1 (kd2 s n) (kd2 s' n') = if (s == s') = true then (if (n == n') = true then false else decide (n.cps.toList < n'.cps.toList)) else decide (s < s') := by
    simp only [kd2, ltD, ltL, eqv_int, eqv_str]
  unfold keyOrd
  rw [e2, l2]
  by_cases h : s = s'
  · by_cases g : n = n'
    · simp [h, g]
    · simp [h, g]
  · simp [h]
theorem tLt_iff (a b : Kt) : tLt a b ↔ a.1 < b.1 ∨ (a.1 = b.1 ∧ (a.2.1.cps.toList < b.2.1.cps.toList ∨ (a.2.1 = b.2.1 ∧ Rlt a.2.2.1 b.2.2.1))) := by
  unfold tLt tOrd
  rw [key_e]
  by_cases h : a.1 = b.1
  · rw [if_pos h]
    by_cases g : a.2.1 = b.2.1
    · rw [if_pos g]
      refine ⟨fun z => .inr ⟨h, .inr ⟨g, z⟩⟩, fun z => ?_⟩
      rcases z with z | ⟨_, z | ⟨_, z⟩⟩
      · omega
      · rw [g] at z; exact absurd z (List.lt_irrefl _)
      · exact z
    · rw [if_neg g]
      by_cases c : a.2.1.cps.toList < b.2.1.cps.toList
      · rw [if_pos c]
        exact ⟨fun _ => .inr ⟨h, .inl c⟩, fun _ => by decide⟩
      · rw [if_neg c]
        refine ⟨fun z => absurd z (by decide), fun z => ?_⟩
        rcases z with z | ⟨_, z | ⟨z, _⟩⟩
        · omega
        · exact absurd z c
        · exact absurd z g
  · rw [if_neg h]
    by_cases c : a.1 < b.1
    · rw [if_pos c]
      exact ⟨fun _ => .inl c, fun _ => by decide⟩
    · rw [if_neg c]
      exact ⟨fun z => absurd z (by decide), fun z => z.elim (fun w => absurd w c) fun w => absurd w.1 h⟩
theorem tOrd_zero {a b : Kt} (sa : tSc a) (sb : tSc b) : tOrd a b = 0 ↔ tEq a b := by
  unfold tOrd tEq
  rw [key_e]
  by_cases h : a.1 = b.1
  · rw [if_pos h]
    by_cases g : a.2.1 = b.2.1
    · rw [if_pos g, order_zero sa sb]
      exact ⟨fun z => ⟨h, g, z⟩, fun z => z.2.2⟩
    · rw [if_neg g]
      refine ⟨fun z => ?_, fun z => absurd z.2.1 g⟩
      split at z <;> cases z
  · rw [if_neg h]
    refine ⟨fun z => ?_, fun z => absurd z.1 h⟩
    split at z <;> cases z
theorem tLt_tot {a b : Kt} (sa : tSc a) (sb : tSc b) : tLt a b ∨ tEq a b ∨ tLt b a := by
  rw [tLt_iff, tLt_iff]
  unfold tEq
  rcases Int.lt_trichotomy a.1 b.1 with h | h | h
  · exact .inl (.inl h)
  · rcases str_tot a.2.1 b.2.1 with g | g | g
    · exact .inl (.inr ⟨h, .inl g⟩)
    · rcases rlt_tot sa sb with c | c | c
      · exact .inl (.inr ⟨h, .inr ⟨g, c⟩⟩)
      · exact .inr (.inl ⟨h, g, c⟩)
      · exact .inr (.inr (.inr ⟨h.symm, .inr ⟨g.symm, c⟩⟩))
    · exact .inr (.inr (.inr ⟨h.symm, .inl g⟩))
  · exact .inr (.inr (.inl h))
theorem tLt_trans {a b c : Kt} (sa : tSc a) (sb : tSc b) (sc : tSc c) (h : tLt a b) (g : tLt b c) : tLt a c := by
  rw [tLt_iff] at *
  rcases h with h | ⟨h, h2⟩ <;> rcases g with g | ⟨g, g2⟩
  · exact .inl (by omega)
  · exact .inl (by omega)
  · exact .inl (by omega)
  · refine .inr ⟨by omega, ?_⟩
    rcases h2 with h2 | ⟨h2, h3⟩ <;> rcases g2 with g2 | ⟨g2, g3⟩
    · exact .inl (List.lt_trans h2 g2)
    · exact .inl (by rw [← g2]; exact h2)
    · exact .inl (by rw [h2]; exact g2)
    · exact .inr ⟨h2.trans g2, rlt_trans sa sb sc h3 g3⟩
theorem tLt_irr {a : Kt} (sa : tSc a) (h : tLt a a) : False := by
  rw [tLt_iff] at h
  rcases h with h | ⟨_, h | ⟨_, h⟩⟩
  · omega
  · exact List.lt_irrefl _ h
  · exact rlt_irr sa h
theorem tLt_asym {a b : Kt} (sa : tSc a) (sb : tSc b) (h : tLt a b) (g : tLt b a) : False := tLt_irr sa (tLt_trans sa sb sa h g)
theorem tEq_lt {a b : Kt} (sb : tSc b) (h : tEq a b) (g : tLt a b) : False := by
  rw [tLt_iff, h.1, h.2.1, h.2.2] at g
  rcases g with g | ⟨_, g | ⟨_, g⟩⟩
  · omega
  · exact List.lt_irrefl _ g
  · exact rlt_irr sb g
/-- two lists in strict order with the same members are one -/
theorem srt_uniq {α : Type} {lt : α → α → Prop} : ∀ {xs ys : List α}, xs.Pairwise lt → ys.Pairwise lt → (∀ x ∈ xs, ∀ y ∈ xs, lt x y → lt y x → False) → (∀ x, x ∈ xs ↔ x ∈ ys) → xs = ys
  | [], [], _, _, _, _ => rfl
  | [], y :: ys, _, _, _, h => absurd ((h y).mpr List.mem_cons_self) (by simp)
  | x :: xs, [], _, _, _, h => absurd ((h x).mp List.mem_cons_self) (by simp)
  | x :: xs, y :: ys, px, py, as, h => by
    rw [List.pairwise_cons] at px py
    have e : x = y := by
      rcases List.mem_cons.mp ((h x).mp List.mem_cons_self) with e | mx
      · exact e
      · rcases List.mem_cons.mp ((h y).mpr List.mem_cons_self) with e | my
        · exact e.symm
        · exact (as x List.mem_cons_self y (List.mem_cons_of_mem _ my) (px.1 y my) (py.1 x mx)).elim
    subst e
    have nx : x ∉ xs := fun m => as x List.mem_cons_self x List.mem_cons_self (px.1 x m) (px.1 x m)
    have ny : x ∉ ys := fun m => as x List.mem_cons_self x List.mem_cons_self (py.1 x m) (py.1 x m)
    rw [srt_uniq px.2 py.2 (fun a ma b mb => as a (List.mem_cons_of_mem _ ma) b (List.mem_cons_of_mem _ mb)) fun z => ?_]
    have hz := h z
    rw [List.mem_cons, List.mem_cons] at hz
    refine ⟨fun m => ?_, fun m => ?_⟩
    · rcases hz.mp (.inr m) with e | w
      · subst e; exact absurd m nx
      · exact w
    · rcases hz.mpr (.inr m) with e | w
      · subst e; exact absurd m ny
      · exact w
/-! items and their keys -/
def ier : It → Kt
  | .rel n c => (0, n, [], c)
  | .fact n _ row => (1, n, row, [])
  | .str n c => (2, n, [], c)
  | .lay n v => (3, n, [], [v])
abbrev Its := List (Addr × It)
def te (t : Addr × It) : Kt := ier t.2
def ScI (os : Its) : Prop := ∀ t ∈ os, tSc (te t)
def KSrt (os : Its) : Prop := os.Pairwise fun a b => tLt (te a) (te b)
/-- an item is placed among items in their order -/
def plc (os : Its) (t : Addr × It) : Its :=
  (os.filter fun u => decide (tOrd (te u) (te t) ≠ 0)).take (os.countP fun u => decide (tOrd (te u) (te t) < 0)) ++ [t] ++ (os.filter fun u => decide (tOrd (te u) (te t) ≠ 0)).drop (os.countP fun u => decide (tOrd (te u) (te t) < 0))
theorem plc_mem {os : Its} {t u : Addr × It} (so : ScI os) (st : tSc (te t)) : u ∈ plc os t ↔ u = t ∨ (u ∈ os ∧ ¬ tEq (te u) (te t)) := by
  unfold plc
  rw [List.append_assoc, List.mem_append, List.mem_append, List.mem_singleton]
  have h : u ∈ (os.filter fun u => decide (tOrd (te u) (te t) ≠ 0)) ↔ u ∈ os ∧ ¬ tEq (te u) (te t) := by
    rw [List.mem_filter, decide_eq_true_iff]
    refine ⟨fun z => ⟨z.1, fun w => z.2 ((tOrd_zero (so u z.1) st).mpr w)⟩, fun z => ⟨z.1, fun w => z.2 ((tOrd_zero (so u z.1) st).mp w)⟩⟩
  have g := (List.take_append_drop (os.countP fun u => decide (tOrd (te u) (te t) < 0)) (os.filter fun u => decide (tOrd (te u) (te t) ≠ 0)))
  rw [← h]
  generalize (os.filter fun u => decide (tOrd (te u) (te t) ≠ 0)) = fs at *
  have g2 : u ∈ fs ↔ u ∈ fs.take (os.countP fun u => decide (tOrd (te u) (te t) < 0)) ∨ u ∈ fs.drop (os.countP fun u => decide (tOrd (te u) (te t) < 0)) := by
    rw [← List.mem_append, g]
  rw [g2]
  refine ⟨fun z => ?_, fun z => ?_⟩
  · rcases z with z | z | z
    · exact .inr (.inl z)
    · exact .inl z
    · exact .inr (.inr z)
  · rcases z with z | z | z
    · exact .inr (.inl z)
    · exact .inl z
    · exact .inr (.inr z)
theorem plc_cut : ∀ {os : Its} {t : Addr × It}, KSrt os → ScI os → tSc (te t) →
    (∀ u ∈ (os.filter fun u => decide (tOrd (te u) (te t) ≠ 0)).take (os.countP fun u => decide (tOrd (te u) (te t) < 0)), tLt (te u) (te t)) ∧
    ∀ u ∈ (os.filter fun u => decide (tOrd (te u) (te t) ≠ 0)).drop (os.countP fun u => decide (tOrd (te u) (te t) < 0)), tLt (te t) (te u)
  | [], t, _, _, _ => by simp
  | y :: ys, t, ks, so, st => by
    have ks' := List.pairwise_cons.mp ks
    have so' : ScI ys := fun u m => so u (List.mem_cons_of_mem _ m)
    have sy := so y List.mem_cons_self
    by_cases h : tLt (te y) (te t)
    · have h0 : tOrd (te y) (te t) ≠ 0 := fun z => tEq_lt st ((tOrd_zero sy st).mp z) h
      have ih := plc_cut (os := ys) (t := t) ks'.2 so' st
      rw [List.filter_cons, if_pos (decide_eq_true h0), List.countP_cons, if_pos (decide_eq_true (show tOrd (te y) (te t) < 0 from h)), List.take_succ_cons, List.drop_succ_cons]
      refine ⟨fun u m => ?_, ih.2⟩
      rcases List.mem_cons.mp m with e | m
      · rw [e]; exact h
      · exact ih.1 u m
    · have c0 : (y :: ys).countP (fun u => decide (tOrd (te u) (te t) < 0)) = 0 := by
        rw [List.countP_eq_zero]
        intro u m z
        have z' : tLt (te u) (te t) := of_decide_eq_true z
        rcases List.mem_cons.mp m with e | m
        · rw [e] at z'; exact h z'
        · exact h (tLt_trans sy (so' u m) st (ks'.1 u m) z')
      rw [c0, List.take_zero, List.drop_zero]
      refine ⟨(fun _ m => by cases m), fun u m => ?_⟩
      rw [List.mem_filter, decide_eq_true_iff] at m
      have su := so u m.1
      rcases tLt_tot su st with c | c | c
      · rcases List.mem_cons.mp m.1 with e | m1
        · rw [e] at c; exact absurd c h
        · exact absurd (tLt_trans sy su st (ks'.1 u m1) c) h
      · exact absurd ((tOrd_zero su st).mpr c) m.2
      · exact c
theorem plc_srt {os : Its} {t : Addr × It} (ks : KSrt os) (so : ScI os) (st : tSc (te t)) : KSrt (plc os t) := by
  have h := plc_cut ks so st
  have pf : KSrt (os.filter fun u => decide (tOrd (te u) (te t) ≠ 0)) := List.Pairwise.filter _ ks
  have sf : ScI (os.filter fun u => decide (tOrd (te u) (te t) ≠ 0)) := fun u m => so u (List.mem_filter.mp m).1
  unfold plc
  generalize (os.filter fun u => decide (tOrd (te u) (te t) ≠ 0)) = fs at *
  generalize (os.countP fun u => decide (tOrd (te u) (te t) < 0)) = k at *
  unfold KSrt
  rw [List.append_assoc, List.pairwise_append]
  refine ⟨List.Pairwise.sublist (List.take_sublist _ _) pf, ?_, fun a ma b mb => ?_⟩
  · rw [List.singleton_append, List.pairwise_cons]
    exact ⟨h.2, List.Pairwise.sublist (List.drop_sublist _ _) pf⟩
  · rw [List.singleton_append] at mb
    rcases List.mem_cons.mp mb with e | mb
    · rw [e]; exact h.1 a ma
    · exact tLt_trans (sf a (List.mem_of_mem_take ma)) st (sf b (List.mem_of_mem_drop mb)) (h.1 a ma) (h.2 b mb)
def plcAll (its : Its) : Its := its.foldl plc []
theorem plcAll_snoc (its : Its) (t : Addr × It) : plcAll (its ++ [t]) = plc (plcAll its) t := by
  unfold plcAll
  rw [List.foldl_append]
  rfl
theorem plc_len (os : Its) (t : Addr × It) : (plc os t).length ≤ os.length + 1 := by
  unfold plc
  rw [List.append_assoc, List.length_append, List.length_append, List.length_take, List.length_drop]
  have := List.length_filter_le (fun u => decide (tOrd (te u) (te t) ≠ 0)) os
  show _ + (1 + _) ≤ _
  omega
theorem snoc_ind {α : Type} {P : List α → Prop} (h0 : P []) (hs : ∀ xs x, P xs → P (xs ++ [x])) (xs : List α) : P xs := by
  have h1 : ∀ ys : List α, P ys.reverse := fun ys => by
    induction ys with
    | nil => exact h0
    | cons y ys ih =>
      rw [List.reverse_cons]
      exact hs _ _ ih
  have h2 := h1 xs.reverse
  rw [List.reverse_reverse] at h2
  exact h2
theorem plcAll_ok : ∀ (its : Its), ScI its → KSrt (plcAll its) ∧ ScI (plcAll its) ∧ (plcAll its).length ≤ its.length ∧ ∀ u ∈ plcAll its, u ∈ its := by
  intro its
  refine snoc_ind (P := fun its => ScI its → KSrt (plcAll its) ∧ ScI (plcAll its) ∧ (plcAll its).length ≤ its.length ∧ ∀ u ∈ plcAll its, u ∈ its) (fun _ => ⟨.nil, (fun _ m => by cases m), Nat.le_refl _, fun _ m => by cases m⟩) (fun its t ih => ?_) its
  · intro so
    have so' : ScI its := fun u m => so u (List.mem_append_left _ m)
    have st : tSc (te t) := so t (List.mem_append_right _ (List.mem_singleton.mpr rfl))
    obtain ⟨k1, k2, k3, k4⟩ := ih so'
    rw [plcAll_snoc]
    refine ⟨plc_srt k1 k2 st, fun u m => ?_, ?_, fun u m => ?_⟩
    · rcases (plc_mem k2 st).mp m with e | ⟨m, _⟩
      · rw [e]; exact st
      · exact k2 u m
    · have := plc_len (plcAll its) t
      rw [List.length_append]
      show _ ≤ its.length + 1
      omega
    · rcases (plc_mem k2 st).mp m with e | ⟨m, _⟩
      · rw [e]; exact List.mem_append_right _ (List.mem_singleton.mpr rfl)
      · exact List.mem_append_left _ (k4 u m)
end K1
namespace K1
open PySem PySem.Spec PyProof.Rows L2 Ow Tlz
theorem valG_put {β : Type} (l : List (Str × β)) (k : Str) (b : β) (m : Str) : valG (putG l k b) m = if m = k then some b else valG l m := by
  unfold putG
  rw [any_val]
  cases e : valG l k with
  | none =>
    rw [if_neg (by simp)]
    unfold valG
    rw [List.find?_append]
    by_cases h : m = k
    · subst h
      rw [if_pos rfl]
      have : l.find? (fun e => decide (e.1 = m)) = none := by
        unfold valG at e
        cases z : l.find? (fun e => decide (e.1 = m)) with
        | none => rfl
        | some x => rw [z] at e; cases e
      rw [this]
      simp
    · rw [if_neg h]
      have : [(k, b)].find? (fun e => decide (e.1 = m)) = none := by
        rw [List.find?_cons, decide_eq_false (fun z => h z.symm)]
        rfl
      rw [this, Option.or_none]
  | some a =>
    rw [if_pos (show (some a).isSome = true from rfl)]
    unfold valG
    rw [List.find?_map]
    have ef : ((fun e : Str × β => decide (e.1 = m)) ∘ fun e => if e.1 = k then (e.1, b) else e) = fun e => decide (e.1 = m) := by
      funext e
      show decide ((if e.1 = k then (e.1, b) else e).1 = m) = _
      split <;> rfl
    rw [ef]
    by_cases h : m = k
    · subst h
      rw [if_pos rfl]
      unfold valG at e
      cases z : l.find? (fun e => decide (e.1 = m)) with
      | none => rw [z] at e; cases e
      | some x =>
        have hx0 := List.find?_some z
        have hx : x.1 = m := of_decide_eq_true hx0
        show some (if x.1 = m then (x.1, b) else x).2 = _
        rw [if_pos hx]
    · rw [if_neg h]
      cases z : l.find? (fun e => decide (e.1 = m)) with
      | none => rfl
      | some x =>
        have hx0 := List.find?_some z
        have hx : x.1 = m := of_decide_eq_true hx0
        show some (if x.1 = k then (x.1, b) else x).2 = some x.2
        rw [if_neg (fun w => h (hx.symm.trans w))]
theorem valG_key {β : Type} {l : List (Str × β)} {n : Str} : n ∈ l.map (·.1) ↔ (valG l n).isSome = true := by
  constructor
  · intro h
    cases e : valG l n with
    | none =>
      obtain ⟨x, mx, ex⟩ := List.mem_map.mp h
      exact absurd ex (valG_none e x mx)
    | some b => rfl
  · intro h
    cases e : valG l n with
    | none => rw [e] at h; cases h
    | some b => exact List.mem_map.mpr ⟨_, valG_mem e, rfl⟩
theorem valG_map {β γ : Type} (g : β → γ) (l : List (Str × β)) (n : Str) : valG (l.map fun e => (e.1, g e.2)) n = (valG l n).map g := by
  unfold valG
  rw [List.find?_map]
  cases z : l.find? (fun e => decide (e.1 = n)) with
  | none =>
    rw [show ((fun e : Str × γ => decide (e.1 = n)) ∘ fun e : Str × β => (e.1, g e.2)) = fun e => decide (e.1 = n) from rfl, z]
    rfl
  | some x =>
    rw [show ((fun e : Str × γ => decide (e.1 = n)) ∘ fun e : Str × β => (e.1, g e.2)) = fun e => decide (e.1 = n) from rfl, z]
    rfl
theorem keys_len {β γ : Type} {l : List (Str × β)} {l' : List (Str × γ)} (n1 : (l.map (·.1)).Nodup) (n2 : (l'.map (·.1)).Nodup) (h : ∀ n, (valG l n).isSome = (valG l' n).isSome) : l.length = l'.length := by
  have p : (l.map (·.1)).Perm (l'.map (·.1)) := (List.perm_ext_iff_of_nodup n1 n2).mpr fun n => by rw [valG_key, valG_key, h]
  have := p.length_eq
  rw [List.length_map, List.length_map] at this
  exact this
/-! what tables have -/
def Has (os : Its) (i : It) : Prop := ∃ a, (a, i) ∈ os
def SrtS (rs : List (Addr × List V)) : Prop := Srt rs ∧ ∀ t ∈ rs, ∀ x ∈ t.2, Scal x
structure Rep (os : Its) (R : Tb) (F : Fb) (S : Tb) (L : List (Str × V)) : Prop where
  r : ∀ n c, (∃ q, valG R n = some (q, c)) ↔ Has os (.rel n c)
  s : ∀ n c, (∃ q, valG S n = some (q, c)) ↔ Has os (.str n c)
  l : ∀ n v, valG L n = some v ↔ Has os (.lay n v)
  f : ∀ n row, (∃ q rs, valG F n = some (q, rs) ∧ ∃ r, (r, row) ∈ rs) ↔ ∃ r, Has os (.fact n r row)
  fn : ∀ n, (valG F n).isSome = true ↔ (∃ c, Has os (.rel n c)) ∨ ∃ r row, Has os (.fact n r row)
  fs : ∀ n q rs, valG F n = some (q, rs) → SrtS rs
  rn : (R.map (·.1)).Nodup
  sn : (S.map (·.1)).Nodup
  ln : (L.map (·.1)).Nodup
  fd : (F.map (·.1)).Nodup
theorem Rep.nil : Rep [] [] [] [] [] := by
  refine ⟨fun n c => ?_, fun n c => ?_, fun n v => ?_, fun n row => ?_, fun n => ?_, (fun n q rs h => by cases h), .nil, .nil, .nil, .nil⟩
  · exact ⟨fun ⟨q, h⟩ => (by cases h), fun ⟨a, h⟩ => by cases h⟩
  · exact ⟨fun ⟨q, h⟩ => (by cases h), fun ⟨a, h⟩ => by cases h⟩
  · exact ⟨fun h => (by cases h), fun ⟨a, h⟩ => by cases h⟩
  · exact ⟨fun ⟨q, rs, h, _⟩ => (by cases h), fun ⟨r, a, h⟩ => by cases h⟩
  · exact ⟨fun h => (by cases h), fun h => by rcases h with ⟨c, a, h⟩ | ⟨r, row, a, h⟩ <;> cases h⟩
theorem place_srt {rs : List (Addr × List V)} {row : List V} {r : Addr} {k : Nat} (h : SrtS rs) (sr : ∀ x ∈ row, Scal x) (lk : k ≤ rs.length) (pl : Place rs row k) (nk : ∀ t, rs[k]? = some t → t.2 ≠ row) :
    SrtS (rs.take k ++ [(r, row)] ++ rs.drop k) := by
  have bef : ∀ t ∈ rs.take k, Rlt t.2 row := fun t m => by
    obtain ⟨j, hj, e⟩ := List.mem_iff_getElem.mp m
    rw [List.length_take] at hj
    rw [List.getElem_take] at e
    exact pl.1 j t (by omega) (by rw [← e]; exact List.getElem?_eq_getElem (by omega))
  have aft : ∀ t ∈ rs.drop k, Rlt row t.2 := fun t m => by
    obtain ⟨j, hj, e⟩ := List.mem_iff_getElem.mp m
    rw [List.length_drop] at hj
    rw [List.getElem_drop] at e
    have et : rs[k + j]? = some t := by rw [← e]; exact List.getElem?_eq_getElem (by omega)
    have lk2 : k < rs.length := by omega
    have ek : rs[k]? = some rs[k] := List.getElem?_eq_getElem lk2
    have s0 := h.2 rs[k] (List.getElem_mem lk2)
    have h0 : Rlt row rs[k].2 := by
      rcases rlt_tot sr s0 with c | c | c
      · exact c
      · exact absurd c.symm (nk _ ek)
      · exact absurd c (pl.2 k _ (Nat.le_refl _) ek)
    by_cases hj0 : j = 0
    · subst hj0
      rw [Nat.add_zero, ek] at et
      rw [← Option.some.inj et]
      exact h0
    · exact rlt_trans sr s0 (h.2 t (List.mem_of_getElem? et)) h0 (srt_lt h.1 ek et (by omega))
  refine ⟨?_, fun t m => ?_⟩
  · unfold Srt
    rw [List.append_assoc, List.pairwise_append]
    refine ⟨List.Pairwise.sublist (List.take_sublist _ _) h.1, ?_, fun a ma b mb => ?_⟩
    · rw [List.singleton_append, List.pairwise_cons]
      exact ⟨aft, List.Pairwise.sublist (List.drop_sublist _ _) h.1⟩
    · rw [List.singleton_append] at mb
      rcases List.mem_cons.mp mb with e | mb
      · rw [e]; exact bef a ma
      · exact rlt_trans (h.2 a (List.mem_of_mem_take ma)) sr (h.2 b (List.mem_of_mem_drop mb)) (bef a ma) (aft b mb)
  · rw [List.append_assoc, List.mem_append, List.mem_append, List.mem_singleton] at m
    rcases m with m | m | m
    · exact h.2 t (List.mem_of_mem_take m)
    · rw [m]; exact sr
    · exact h.2 t (List.mem_of_mem_drop m)
theorem mem_cut {α : Type} {rs : List α} {x y : α} {k : Nat} : y ∈ rs.take k ++ [x] ++ rs.drop k ↔ y = x ∨ y ∈ rs := by
  have h : y ∈ rs ↔ y ∈ rs.take k ∨ y ∈ rs.drop k := by rw [← List.mem_append, List.take_append_drop]
  rw [List.append_assoc, List.mem_append, List.mem_append, List.mem_singleton, h]
  exact ⟨fun z => z.elim (fun w => .inr (.inl w)) fun w => w.elim .inl fun v => .inr (.inr v), fun z => z.elim (fun w => .inr (.inl w)) fun w => w.elim .inl fun v => .inr (.inr v)⟩
/-- what a put fact changes in the table of facts -/
theorem putF_rep {F F' : Fb} {n : Str} {r : Addr} {row : List V} (h : PutF F n r row F') (fs : ∀ m q rs, valG F m = some (q, rs) → SrtS rs) (fd : (F.map (·.1)).Nodup) (sr : ∀ x ∈ row, Scal x) :
    (∀ m row', (∃ q rs, valG F' m = some (q, rs) ∧ ∃ r, (r, row') ∈ rs) ↔ (m = n ∧ row' = row) ∨ ∃ q rs, valG F m = some (q, rs) ∧ ∃ r, (r, row') ∈ rs) ∧
    (∀ m, (valG F' m).isSome = true ↔ m = n ∨ (valG F m).isSome = true) ∧ (∀ m q rs, valG F' m = some (q, rs) → SrtS rs) ∧ (F'.map (·.1)).Nodup := by
  obtain ⟨q, rs, F1, k, how, lk, pl, h2⟩ := h
  -- the name is there
  have h1 : valG F1 n = some (q, rs) ∧ (∀ m, m ≠ n → valG F1 m = valG F m) ∧ (∀ row', (∃ q rs, valG F n = some (q, rs) ∧ ∃ r, (r, row') ∈ rs) ↔ ∃ r, (r, row') ∈ rs) ∧ SrtS rs ∧ (F1.map (·.1)).Nodup := by
    rcases how with ⟨e, ev⟩ | ⟨ev, e, e1⟩
    · subst e
      refine ⟨ev, fun _ _ => rfl, fun row' => ⟨fun ⟨q', rs', e', w⟩ => ?_, fun w => ⟨q, rs, ev, w⟩⟩, fs _ _ _ ev, fd⟩
      rw [ev] at e'
      cases e'
      exact w
    · subst e e1
      rw [← putG_new (q, ([] : List (Addr × List V))) ev]
      refine ⟨by rw [valG_put, if_pos rfl], fun m hm => by rw [valG_put, if_neg hm], fun row' => ⟨fun ⟨q', rs', e', w⟩ => ?_, fun ⟨r, w⟩ => by cases w⟩, ⟨.nil, (fun _ m => by cases m)⟩, putG_nodup fd⟩
      rw [ev] at e'
      cases e'
  obtain ⟨hv, ho, hm, hs, hd⟩ := h1
  rcases h2 with ⟨e, t, et, er⟩ | ⟨e, nk⟩
  · subst e
    refine ⟨fun m row' => ?_, fun m => ?_, fun m q' rs' ev => ?_, hd⟩
    · by_cases c : m = n
      · subst c
        rw [hm]
        refine ⟨fun ⟨q', rs', e', w⟩ => ?_, fun w => ?_⟩
        · rw [hv] at e'
          cases e'
          exact .inr w
        · refine ⟨q, rs, hv, ?_⟩
          rcases w with ⟨_, w⟩ | w
          · rw [w, ← er]
            exact ⟨t.1, List.mem_of_getElem? et⟩
          · exact w
      · rw [ho m c]
        exact ⟨.inr, fun w => w.elim (fun z => absurd z.1 c) id⟩
    · by_cases c : m = n
      · subst c
        rw [hv]
        exact ⟨fun _ => .inl rfl, fun _ => rfl⟩
      · rw [ho m c]
        exact ⟨.inr, fun w => w.elim (fun z => absurd z c) id⟩
    · by_cases c : m = n
      · subst c
        rw [hv] at ev
        cases ev
        exact hs
      · rw [ho m c] at ev
        exact fs _ _ _ ev
  · subst e
    have ps := place_srt (r := r) hs sr lk (pl hs.1) nk
    refine ⟨fun m row' => ?_, fun m => ?_, fun m q' rs' ev => ?_, putG_nodup hd⟩
    · rw [valG_put]
      by_cases c : m = n
      · subst c
        rw [if_pos rfl, hm]
        refine ⟨fun ⟨q', rs', e', r', w⟩ => ?_, fun w => ⟨_, _, rfl, ?_⟩⟩
        · cases e'
          rcases mem_cut.mp w with w | w
          · exact .inl ⟨rfl, congrArg Prod.snd w⟩
          · exact .inr ⟨_, w⟩
        · rcases w with ⟨_, w⟩ | ⟨r', w⟩
          · rw [w]
            exact ⟨r, mem_cut.mpr (.inl rfl)⟩
          · exact ⟨r', mem_cut.mpr (.inr w)⟩
      · rw [if_neg c, ho m c]
        exact ⟨.inr, fun w => w.elim (fun z => absurd z.1 c) id⟩
    · rw [valG_put]
      by_cases c : m = n
      · rw [if_pos c]
        exact ⟨fun _ => .inl c, fun _ => rfl⟩
      · rw [if_neg c, ho m c]
        exact ⟨.inr, fun w => w.elim (fun z => absurd z c) id⟩
    · rw [valG_put] at ev
      by_cases c : m = n
      · rw [if_pos c] at ev
        cases ev
        exact ps
      · rw [if_neg c, ho m c] at ev
        exact fs _ _ _ ev
theorem eq_rel {n m : Str} {c c' : List V} : tEq (ier (.rel n c)) (ier (.rel m c')) ↔ n = m := ⟨fun h => h.2.1, fun h => ⟨rfl, h, rfl⟩⟩
theorem eq_str {n m : Str} {c c' : List V} : tEq (ier (.str n c)) (ier (.str m c')) ↔ n = m := ⟨fun h => h.2.1, fun h => ⟨rfl, h, rfl⟩⟩
theorem eq_lay {n m : Str} {c c' : V} : tEq (ier (.lay n c)) (ier (.lay m c')) ↔ n = m := ⟨fun h => h.2.1, fun h => ⟨rfl, h, rfl⟩⟩
theorem eq_fact {n m : Str} {r r' : Addr} {c c' : List V} : tEq (ier (.fact n r c)) (ier (.fact m r' c')) ↔ n = m ∧ c = c' := ⟨fun h => h.2, fun h => ⟨rfl, h⟩⟩
/-- an item that is placed, and what the items have then -/
theorem has_plc {os : Its} {t : Addr × It} (so : ScI os) (st : tSc (te t)) (i : It) : Has (plc os t) i ↔ i = t.2 ∨ (Has os i ∧ ¬ tEq (ier i) (te t)) := by
  unfold Has
  constructor
  · rintro ⟨a, m⟩
    rcases (plc_mem so st).mp m with e | ⟨m, ne⟩
    · exact .inl (by rw [← e])
    · exact .inr ⟨⟨a, m⟩, ne⟩
  · rintro (e | ⟨⟨a, m⟩, ne⟩)
    · exact ⟨t.1, (plc_mem so st).mpr (.inl (by rw [e]))⟩
    · exact ⟨a, (plc_mem so st).mpr (.inr ⟨m, ne⟩)⟩
theorem sort_ne {i : It} {t : Addr × It} (h : (ier i).1 ≠ (te t).1) (os : Its) : (i = t.2 ∨ (Has os i ∧ ¬ tEq (ier i) (te t))) ↔ Has os i :=
  ⟨fun z => z.elim (fun e => absurd (by rw [e]; rfl) h) (·.1), fun z => .inr ⟨z, fun w => h w.1⟩⟩
theorem tab_put {T : Tb} {n : Str} {q : Addr} {c : List V} {P : Str → List V → Prop} (h : ∀ m c', (∃ q, valG T m = some (q, c')) ↔ P m c') (m : Str) (c' : List V) :
    (∃ q', valG (putG T n (q, c)) m = some (q', c')) ↔ (m = n ∧ c' = c) ∨ (P m c' ∧ ¬ m = n) := by
  rw [valG_put]
  by_cases e : m = n
  · rw [if_pos e]
    exact ⟨fun ⟨q', z⟩ => .inl ⟨e, by cases z; rfl⟩, fun z => z.elim (fun w => ⟨q, by rw [w.2]⟩) fun w => absurd e w.2⟩
  · rw [if_neg e, h]
    exact ⟨fun z => .inr ⟨z, e⟩, fun z => z.elim (fun w => absurd w.1 e) (·.1)⟩
theorem Rep.put {os : Its} {t : Addr × It} {R R' S S' : Tb} {F F' : Fb} {L L' : List (Str × V)} (h : Rep os R F S L) (p : PutI R F S L t.2 R' F' S' L') (so : ScI os) (st : tSc (te t)) : Rep (plc os t) R' F' S' L' := by
  obtain ⟨hr, hs, hl, hf, hfn, hfs, rn, sn, ln, fd⟩ := h
  have hp := has_plc so st
  obtain ⟨a, i⟩ := t
  cases i with
  | rel n c =>
    obtain ⟨⟨q, e1⟩, h2, e3, e4⟩ := p
    subst e1 e3 e4
    have hF : (∀ m row, (∃ q rs, valG F' m = some (q, rs) ∧ ∃ r, (r, row) ∈ rs) ↔ ∃ q rs, valG F m = some (q, rs) ∧ ∃ r, (r, row) ∈ rs) ∧ (∀ m, (valG F' m).isSome = true ↔ m = n ∨ (valG F m).isSome = true) ∧ (∀ m q rs, valG F' m = some (q, rs) → SrtS rs) ∧ (F'.map (·.1)).Nodup := by
      rcases h2 with ⟨sm, e⟩ | ⟨q', ev, e⟩
      · subst e
        exact ⟨fun _ _ => Iff.rfl, fun m => ⟨.inr, fun z => z.elim (fun w => by rw [w]; exact sm) id⟩, hfs, fd⟩
      · subst e
        rw [← putG_new (q', ([] : List (Addr × List V))) ev]
        refine ⟨fun m row => ?_, fun m => ?_, fun m q2 rs2 e2 => ?_, putG_nodup fd⟩
        · rw [valG_put]
          by_cases c : m = n
          · subst c
            rw [if_pos rfl, ev]
            exact ⟨fun ⟨_, _, z, r, w⟩ => (by cases z; cases w), fun ⟨_, _, z, _⟩ => (by cases z)⟩
          · rw [if_neg c]
        · rw [valG_put]
          by_cases c : m = n
          · rw [if_pos c]; exact ⟨fun _ => .inl c, fun _ => rfl⟩
          · rw [if_neg c]; exact ⟨.inr, fun z => z.elim (fun w => absurd w c) id⟩
        · rw [valG_put] at e2
          by_cases c : m = n
          · rw [if_pos c] at e2
            cases e2
            exact ⟨.nil, fun _ m => by cases m⟩
          · rw [if_neg c] at e2
            exact hfs _ _ _ e2
    obtain ⟨f1, f2, f3, f4⟩ := hF
    refine ⟨fun m c' => ?_, fun m c' => ?_, fun m v => ?_, fun m row => ?_, fun m => ?_, f3, putG_nodup rn, sn, ln, f4⟩
    · rw [tab_put hr, hp]
      show _ ↔ (It.rel m c' = It.rel n c ∨ (Has os (.rel m c') ∧ ¬ tEq (ier (.rel m c')) (ier (.rel n c))))
      rw [eq_rel, It.rel.injEq]
    · rw [hp, sort_ne (by show (2 : Int) ≠ 0; decide), hs]
    · rw [hp, sort_ne (by show (3 : Int) ≠ 0; decide), hl]
    · rw [f1, hf]
      refine exists_congr fun r => ?_
      rw [hp, sort_ne (by show (1 : Int) ≠ 0; decide)]
    · rw [f2, hfn]
      constructor
      · rintro (e | ⟨c', z⟩ | ⟨r, row, z⟩)
        · exact .inl ⟨c, (hp _).mpr (.inl (by rw [e]))⟩
        · by_cases e : m = n
          · exact .inl ⟨c, (hp _).mpr (.inl (by rw [e]))⟩
          · exact .inl ⟨c', (hp _).mpr (.inr ⟨z, fun w => e (eq_rel.mp w)⟩)⟩
        · exact .inr ⟨r, row, by rw [hp, sort_ne (by show (1 : Int) ≠ 0; decide)]; exact z⟩
      · rintro (⟨c', z⟩ | ⟨r, row, z⟩)
        · rcases (hp _).mp z with e | ⟨z, _⟩
          · exact .inl (It.rel.inj e).1
          · exact .inr (.inl ⟨c', z⟩)
        · rw [hp, sort_ne (by show (1 : Int) ≠ 0; decide)] at z
          exact .inr (.inr ⟨r, row, z⟩)
  | fact n r row =>
    obtain ⟨pf, e1, e3, e4⟩ := p
    subst e1 e3 e4
    obtain ⟨f1, f2, f3, f4⟩ := putF_rep pf hfs fd st
    refine ⟨fun m c' => ?_, fun m c' => ?_, fun m v => ?_, fun m row' => ?_, fun m => ?_, f3, rn, sn, ln, f4⟩
    · rw [hp, sort_ne (by show (0 : Int) ≠ 1; decide), hr]
    · rw [hp, sort_ne (by show (2 : Int) ≠ 1; decide), hs]
    · rw [hp, sort_ne (by show (3 : Int) ≠ 1; decide), hl]
    · rw [f1, hf]
      constructor
      · rintro (⟨e1, e2⟩ | ⟨r', z⟩)
        · exact ⟨r, (hp _).mpr (.inl (by rw [e1, e2]))⟩
        · by_cases e : m = n ∧ row' = row
          · exact ⟨r, (hp _).mpr (.inl (by rw [e.1, e.2]))⟩
          · exact ⟨r', (hp _).mpr (.inr ⟨z, fun w => e (eq_fact.mp w)⟩)⟩
      · rintro ⟨r', z⟩
        rcases (hp _).mp z with e | ⟨z, _⟩
        · exact .inl ⟨(It.fact.inj e).1, (It.fact.inj e).2.2⟩
        · exact .inr ⟨r', z⟩
    · rw [f2, hfn]
      constructor
      · rintro (e | ⟨c', z⟩ | ⟨r', row', z⟩)
        · exact .inr ⟨r, row, (hp _).mpr (.inl (by rw [e]))⟩
        · exact .inl ⟨c', by rw [hp, sort_ne (by show (0 : Int) ≠ 1; decide)]; exact z⟩
        · by_cases e : m = n ∧ row' = row
          · exact .inr ⟨r, row, (hp _).mpr (.inl (by rw [e.1]))⟩
          · exact .inr ⟨r', row', (hp _).mpr (.inr ⟨z, fun w => e (eq_fact.mp w)⟩)⟩
      · rintro (⟨c', z⟩ | ⟨r', row', z⟩)
        · rw [hp, sort_ne (by show (0 : Int) ≠ 1; decide)] at z
          exact .inr (.inl ⟨c', z⟩)
        · rcases (hp _).mp z with e | ⟨z, _⟩
          · exact .inl (It.fact.inj e).1
          · exact .inr (.inr ⟨r', row', z⟩)
  | str n c =>
    obtain ⟨⟨q, e1⟩, e2, e3, e4⟩ := p
    subst e1 e2 e3 e4
    refine ⟨fun m c' => ?_, fun m c' => ?_, fun m v => ?_, fun m row => ?_, fun m => ?_, hfs, rn, putG_nodup sn, ln, fd⟩
    · rw [hp, sort_ne (by show (0 : Int) ≠ 2; decide), hr]
    · rw [tab_put hs, hp]
      show _ ↔ (It.str m c' = It.str n c ∨ (Has os (.str m c') ∧ ¬ tEq (ier (.str m c')) (ier (.str n c))))
      rw [eq_str, It.str.injEq]
    · rw [hp, sort_ne (by show (3 : Int) ≠ 2; decide), hl]
    · rw [hf]
      exact exists_congr fun r => by rw [hp, sort_ne (by show (1 : Int) ≠ 2; decide)]
    · rw [hfn]
      exact or_congr (exists_congr fun c => by rw [hp, sort_ne (by show (0 : Int) ≠ 2; decide)]) (exists_congr fun r => exists_congr fun row => by rw [hp, sort_ne (by show (1 : Int) ≠ 2; decide)])
  | lay n v =>
    obtain ⟨e1, e2, e3, e4⟩ := p
    subst e1 e2 e3 e4
    refine ⟨fun m c' => ?_, fun m c' => ?_, fun m v' => ?_, fun m row => ?_, fun m => ?_, hfs, rn, sn, putG_nodup ln, fd⟩
    · rw [hp, sort_ne (by show (0 : Int) ≠ 3; decide), hr]
    · rw [hp, sort_ne (by show (2 : Int) ≠ 3; decide), hs]
    · rw [valG_put, hp]
      show _ ↔ (It.lay m v' = It.lay n v ∨ (Has os (.lay m v') ∧ ¬ tEq (ier (.lay m v')) (ier (.lay n v))))
      rw [eq_lay, It.lay.injEq]
      by_cases e : m = n
      · rw [if_pos e]
        exact ⟨fun z => .inl ⟨e, (Option.some.inj z).symm⟩, fun z => z.elim (fun w => by rw [w.2]) fun w => absurd e w.2⟩
      · rw [if_neg e, hl]
        exact ⟨fun z => .inr ⟨z, e⟩, fun z => z.elim (fun w => absurd w.1 e) (·.1)⟩
    · rw [hf]
      exact exists_congr fun r => by rw [hp, sort_ne (by show (1 : Int) ≠ 3; decide)]
    · rw [hfn]
      exact or_congr (exists_congr fun c => by rw [hp, sort_ne (by show (0 : Int) ≠ 3; decide)]) (exists_congr fun r => exists_congr fun row => by rw [hp, sort_ne (by show (1 : Int) ≠ 3; decide)])
theorem Puts.rep {is : List It} {R S : Tb} {F : Fb} {L : List (Str × V)} (h : Puts is R F S L) : ∀ its : Its, its.map (·.2) = is → ScI its → Rep (plcAll its) R F S L := by
  induction h with
  | nil =>
    intro its e _
    rw [List.map_eq_nil_iff.mp e]
    exact Rep.nil
  | snoc _ p ih =>
    intro its e so
    obtain ⟨l1, l2, e0, e1, e2⟩ := List.map_eq_append_iff.mp e
    obtain ⟨t, e3, e4⟩ := List.map_eq_singleton_iff.mp e2
    subst e3 e4
    subst e0
    have so' : ScI l1 := fun u m => so u (List.mem_append_left _ m)
    rw [plcAll_snoc]
    exact (ih l1 e1 so').put p (plcAll_ok l1 so').2.1 (so t (List.mem_append_right _ (List.mem_singleton.mpr rfl)))
/-! two tables of the same items -/
theorem rows_eq {rs rs' : List (Addr × List V)} (h : SrtS rs) (h' : SrtS rs') (e : ∀ row, (∃ r, (r, row) ∈ rs) ↔ ∃ r, (r, row) ∈ rs') : rs.map (·.2) = rs'.map (·.2) := by
  have mm : ∀ {ts : List (Addr × List V)} {row : List V}, row ∈ ts.map (·.2) ↔ ∃ r, (r, row) ∈ ts := fun {ts row} => by
    rw [List.mem_map]
    exact ⟨fun ⟨t, m, z⟩ => ⟨t.1, by rw [← z]; exact m⟩, fun ⟨r, m⟩ => ⟨_, m, rfl⟩⟩
  refine srt_uniq (lt := Rlt) (List.pairwise_map.mpr h.1) (List.pairwise_map.mpr h'.1) (fun x mx y my => ?_) fun row => by rw [mm, mm, e]
  obtain ⟨r, mr⟩ := mm.mp mx
  obtain ⟨r', mr'⟩ := mm.mp my
  exact rlt_asym (h.2 _ mr) (h.2 _ mr')
section
variable {os : Its} {R S R' S' : Tb} {F F' : Fb} {L L' : List (Str × V)}
theorem tab_some {T T' : Tb} {P : Str → List V → Prop} (h : ∀ m c', (∃ q, valG T m = some (q, c')) ↔ P m c') (h' : ∀ m c', (∃ q, valG T' m = some (q, c')) ↔ P m c') (n : Str) : (valG T n).isSome = (valG T' n).isSome := by
  cases e : valG T n with
  | none =>
    cases e' : valG T' n with
    | none => rfl
    | some b =>
      obtain ⟨q, z⟩ := (h n b.2).mpr ((h' n b.2).mp ⟨b.1, e'⟩)
      rw [e] at z
      cases z
  | some b =>
    obtain ⟨q, z⟩ := (h' n b.2).mpr ((h n b.2).mp ⟨b.1, e⟩)
    rw [z]
    rfl
theorem Rep.eqR (h : Rep os R F S L) (h' : Rep os R' F' S' L') : R.length = R'.length ∧ ∀ n q c, valG R' n = some (q, c) → ∃ q', valG R n = some (q', c) :=
  ⟨keys_len h.rn h'.rn (tab_some h.r h'.r), fun n q c e => (h.r n c).mpr ((h'.r n c).mp ⟨q, e⟩)⟩
theorem Rep.eqS (h : Rep os R F S L) (h' : Rep os R' F' S' L') : S.length = S'.length ∧ ∀ n q c, valG S' n = some (q, c) → ∃ q', valG S n = some (q', c) :=
  ⟨keys_len h.sn h'.sn (tab_some h.s h'.s), fun n q c e => (h.s n c).mpr ((h'.s n c).mp ⟨q, e⟩)⟩
theorem Rep.eqL (h : Rep os R F S L) (h' : Rep os R' F' S' L') : L.length = L'.length ∧ ∀ n v, valG L' n = some v → valG L n = some v := by
  refine ⟨keys_len h.ln h'.ln fun n => ?_, fun n v e => (h.l n v).mpr ((h'.l n v).mp e)⟩
  cases e : valG L n with
  | none =>
    cases e' : valG L' n with
    | none => rfl
    | some b =>
      have z := (h.l n b).mpr ((h'.l n b).mp e')
      rw [e] at z
      cases z
  | some b => rw [(h'.l n b).mpr ((h.l n b).mp e)]
theorem Rep.eqF (h : Rep os R F S L) (h' : Rep os R' F' S' L') : F.length = F'.length ∧ ∀ n q rs, valG F' n = some (q, rs) → ∃ q' rs', valG F n = some (q', rs') ∧ rs'.map (·.2) = rs.map (·.2) := by
  have sm : ∀ n, (valG F n).isSome = (valG F' n).isSome := fun n => Bool.eq_iff_iff.mpr (by rw [h.fn, h'.fn])
  refine ⟨keys_len h.fd h'.fd sm, fun n q rs e => ?_⟩
  have z := sm n
  rw [e] at z
  cases e2 : valG F n with
  | none => rw [e2] at z; cases z
  | some b =>
    refine ⟨b.1, b.2, rfl, rows_eq (h.fs _ _ _ e2) (h'.fs _ _ _ e) fun row => ?_⟩
    have a1 := h.f n row
    have a2 := h'.f n row
    rw [e2] at a1
    rw [e] at a2
    refine ⟨fun w => ?_, fun w => ?_⟩
    · obtain ⟨q3, rs3, e3, w3⟩ := a2.mpr (a1.mp ⟨_, _, rfl, w⟩)
      cases e3
      exact w3
    · obtain ⟨q3, rs3, e3, w3⟩ := a1.mpr (a2.mp ⟨_, _, rfl, w⟩)
      cases e3
      exact w3
theorem Rep.copyF (h : Rep os R F S L) (e : F'.map (fun x => (x.1, x.2.2)) = F.map fun x => (x.1, x.2.2)) : Rep os R F' S L := by
  have ev : ∀ n, (valG F' n).map (·.2) = (valG F n).map (·.2) := fun n => by
    rw [← valG_map (fun b : Addr × List (Addr × List V) => b.2), ← valG_map (fun b : Addr × List (Addr × List V) => b.2), e]
  have some_ : ∀ n rs, (∃ q, valG F' n = some (q, rs)) ↔ ∃ q, valG F n = some (q, rs) := fun n rs => by
    have z := ev n
    cases a : valG F' n with
    | none =>
      cases b : valG F n with
      | none => exact Iff.rfl
      | some y => rw [a, b] at z; cases z
    | some x =>
      cases b : valG F n with
      | none => rw [a, b] at z; cases z
      | some y =>
        rw [a, b] at z
        have z' : x.2 = y.2 := Option.some.inj z
        refine ⟨fun ⟨q, w⟩ => ⟨y.1, ?_⟩, fun ⟨q, w⟩ => ⟨x.1, ?_⟩⟩
        · cases w; rw [show rs = y.2 from z']
        · cases w; rw [show rs = x.2 from z'.symm]
  have sm : ∀ n, (valG F' n).isSome = (valG F n).isSome := fun n => by
    have z := congrArg Option.isSome (ev n)
    rw [Option.isSome_map, Option.isSome_map] at z
    exact z
  refine ⟨h.r, h.s, h.l, fun n row => ?_, fun n => by rw [sm, h.fn], fun n q rs e2 => ?_, h.rn, h.sn, h.ln, ?_⟩
  · rw [← h.f]
    refine ⟨fun ⟨q, rs, e2, w⟩ => ?_, fun ⟨q, rs, e2, w⟩ => ?_⟩
    · obtain ⟨q', e3⟩ := (some_ n rs).mp ⟨q, e2⟩
      exact ⟨q', rs, e3, w⟩
    · obtain ⟨q', e3⟩ := (some_ n rs).mpr ⟨q, e2⟩
      exact ⟨q', rs, e3, w⟩
  · obtain ⟨q', e3⟩ := (some_ n rs).mp ⟨q, e2⟩
    exact h.fs _ _ _ e3
  · have z := congrArg (List.map Prod.fst) e
    rw [List.map_map, List.map_map] at z
    have z2 : F'.map (·.1) = F.map (·.1) := z
    rw [z2]
    exact h.fd
end
end K1
namespace K1
open PySem PySem.Spec PyProof.Rows L2 Ow Tlz
abbrev N_law_is_integer : List Str := ["actual"]
abbrev N_law_same : List Str := ["actual", "expected", "k"]
/-! data of numbers, texts, truths, None, tuples and lists -/
mutual
def ist : PyData → Bool
  | .int _ => true
  | .str _ => true
  | .none => true
  | .bool _ => true
  | .tuple xs => decide (xs.length ≤ 1000) && ists xs
  | .list xs => decide (xs.length ≤ 1000) && ists xs
  | _ => false
def ists : List PyData → Bool
  | [] => true
  | x :: xs => ist x && ists xs
end
theorem ists_at : ∀ {xs : List PyData}, ists xs = true → ∀ {i : Nat} {d : PyData}, xs[i]? = some d → ist d = true
  | [], _, i, d, h => by simp at h
  | x :: xs, h, i, d, e => by
    rw [ists, Bool.and_eq_true] at h
    cases i with
    | zero =>
      have z : x = d := Option.some.inj e
      rw [← z]; exact h.1
    | succ i => exact ists_at h.2 (i := i) e
theorem ists_all : ∀ {xs : List PyData}, (∀ x ∈ xs, ist x = true) → ists xs = true
  | [], _ => by rw [ists]
  | x :: xs, h => by
    rw [ists, h x List.mem_cons_self, ists_all fun y m => h y (List.mem_cons_of_mem _ m)]
    rfl
theorem ist_tup {xs : List PyData} (l : xs.length ≤ 1000) (h : ∀ x ∈ xs, ist x = true) : ist (.tuple xs) = true := by
  rw [ist, decide_eq_true l, ists_all h]
  rfl
theorem ist_lst {xs : List PyData} (l : xs.length ≤ 1000) (h : ∀ x ∈ xs, ist x = true) : ist (.list xs) = true := by
  rw [ist, decide_eq_true l, ists_all h]
  rfl
mutual
theorem Dp.sm {K : PySem.W.Frag} {H H' : Hp} (t : Same H H') : ∀ (d : PyData) (v : V), Dp K H v d → Dp K H' v d
  | .none, _, .non => .non
  | .bool b, _, .bl _ => .bl b
  | .int i, _, .int _ => .int i
  | .str x, _, .str _ => .str x
  | .list xs, _, .lst s a => .lst (t.seq s) (DpAll.sm t xs _ a)
  | .tuple xs, _, .tup s a => .tup (Tk.same t _ _ s) (DpAll.sm t xs _ a)
theorem DpAll.sm {K : PySem.W.Frag} {H H' : Hp} (t : Same H H') : ∀ (ds : List PyData) (vs : List V), DpAll K H vs ds → DpAll K H' vs ds
  | [], _, .nil => .nil
  | d :: ds, _, .cons a b => .cons (Dp.sm t d _ a) (DpAll.sm t ds _ b)
end
theorem DpAll.len {K : PySem.W.Frag} {H : Hp} : ∀ {vs : List V} {ds : List PyData}, DpAll K H vs ds → vs.length = ds.length
  | _, _, .nil => rfl
  | _, _, .cons _ b => by rw [List.length_cons, List.length_cons, DpAll.len b]
theorem DpAll.get {K : PySem.W.Frag} {H : Hp} : ∀ {vs : List V} {ds : List PyData}, DpAll K H vs ds → ∀ {i : Nat} {d : PyData}, ds[i]? = some d → ∃ v, vs[i]? = some v ∧ Dp K H v d
  | _, _, .nil, i, d, h => by simp at h
  | _, _, .cons a b, 0, d, h => by
    have e := Option.some.inj h
    subst e
    exact ⟨_, rfl, a⟩
  | _, _, .cons a b, i + 1, d, h => DpAll.get b (i := i) h
theorem depth_at : ∀ {xs : List PyData} {n : Nat}, PyData.depthAll xs ≤ n → ∀ {i : Nat} {d : PyData}, xs[i]? = some d → d.depth ≤ n
  | [], _, _, i, d, h => by simp at h
  | x :: xs, n, h, i, d, e => by
    rw [PyData.depthAll] at h
    cases i with
    | zero =>
      have z : x = d := Option.some.inj e
      rw [← z]; exact Nat.le_trans (Nat.le_max_left _ _) h
    | succ i => exact depth_at (Nat.le_trans (Nat.le_max_right _ _) h) (i := i) e
def spIsInt : Sp := fun vs H Q _ => ∃ i : Int, vs = [.int i] ∧ Q (.bl true) H
/-- two equal data, less than n deep -/
def spSm (K : PySem.W.Frag) : Nat → Sp
  | 0 => fun _ _ _ _ => False
  | n + 1 => fun vs H Q _ => ∃ (x y : V) (d : PyData), vs = [x, y] ∧ Dp K H x d ∧ Dp K H y d ∧ ist d = true ∧ d.depth ≤ n ∧ Mak H Q fun z _ => z = .bl true
theorem lstT {K : PySem.W.Frag} {H : Hp} {a : Addr} {xs : List V} (h : SqL K H a xs) : TyX K H (.ref a) (.type "list") := by
  rcases h with (h | ⟨o, h⟩) | ⟨o, its, n, hk, hc, _⟩
  · exact .base (.lst h)
  · exact .base (.frz h)
  · exact .kList hk hc
theorem tupT2 {K : PySem.W.Frag} {H : Hp} {a : Addr} {xs : List V} (h : SqT K H a xs) : TyX K H (.ref a) (.type "tuple") := by
  rcases h with (h | ⟨o, h⟩) | ⟨o, its, n, hk, hc, _⟩
  · exact .base (.tup h)
  · exact .fTuple h
  · exact .kTuple hk hc
theorem kitI {K : PySem.W.Frag} : PySem.W.kitAny K (.type "int") [.type "list", .type "tuple"] = some false :=
  kitAny_cons (b := false) (kit_ty (by decide +kernel)) (fun _ => kitAny_cons (b := false) (kit_ty (by decide +kernel)) (fun _ => rfl) (fun h => Bool.noConfusion h)) (fun h => Bool.noConfusion h)
theorem kitS {K : PySem.W.Frag} : PySem.W.kitAny K (.type "str") [.type "list", .type "tuple"] = some false :=
  kitAny_cons (b := false) (kit_ty (by decide +kernel)) (fun _ => kitAny_cons (b := false) (kit_ty (by decide +kernel)) (fun _ => rfl) (fun h => Bool.noConfusion h)) (fun h => Bool.noConfusion h)
theorem kitN {K : PySem.W.Frag} : PySem.W.kitAny K (.type "NoneType") [.type "list", .type "tuple"] = some false :=
  kitAny_cons (b := false) (kit_ty (by decide +kernel)) (fun _ => kitAny_cons (b := false) (kit_ty (by decide +kernel)) (fun _ => rfl) (fun h => Bool.noConfusion h)) (fun h => Bool.noConfusion h)
theorem kitB {K : PySem.W.Frag} : PySem.W.kitAny K (.type "bool") [.type "list", .type "tuple"] = some false :=
  kitAny_cons (b := false) (kit_ty (by decide +kernel)) (fun _ => kitAny_cons (b := false) (kit_ty (by decide +kernel)) (fun _ => rfl) (fun h => Bool.noConfusion h)) (fun h => Bool.noConfusion h)
theorem kitL {K : PySem.W.Frag} : PySem.W.kitAny K (.type "list") [.type "list", .type "tuple"] = some true :=
  kitAny_cons (b := true) (kit_ty (by decide +kernel)) (fun h => Bool.noConfusion h) (fun _ => rfl)
theorem kitT {K : PySem.W.Frag} : PySem.W.kitAny K (.type "tuple") [.type "list", .type "tuple"] = some true :=
  kitAny_cons (b := false) (kit_ty (by decide +kernel)) (fun _ => kitAny_cons (b := true) (kit_ty (by decide +kernel)) (fun h => Bool.noConfusion h) (fun _ => rfl)) (fun h => Bool.noConfusion h)
section
variable {P : Program} {w : World} {K : PySem.W.Frag} {mg : Str → Option Value} {base : Heap}
end
end K1

namespace K1
open PySem PySem.Spec PyProof.Rows L2 Ow Tlz
theorem rising_pw : ∀ (r : List Str) (p : Str), risingS p r = true → (∀ x ∈ r, ¬ x.cps.toList < p.cps.toList) ∧ r.Pairwise fun a b => ¬ b.cps.toList < a.cps.toList
  | [], p, _ => ⟨(fun _ m => nomatch m), .nil⟩
  | x :: r, p, h => by
    rw [risingS, Bool.and_eq_true, ltCps_eq] at h
    have h1 : ¬ x.cps.toList < p.cps.toList := fun z => by
      rw [decide_eq_true z] at h
      exact absurd h.1 (by decide)
    obtain ⟨a, b⟩ := rising_pw r x h.2
    refine ⟨fun y m => ?_, List.pairwise_cons.mpr ⟨fun y m => a y m, b⟩⟩
    rcases List.mem_cons.mp m with rfl | m
    · exact h1
    · intro z
      have z1 := a y m
      have z2 := List.le_trans (show p.cps.toList ≤ x.cps.toList from h1) (show x.cps.toList ≤ y.cps.toList from z1)
      exact z2 z
theorem sortedS_pw : ∀ {xs : List Str}, sortedS xs = true → xs.Pairwise fun a b => ¬ b.cps.toList < a.cps.toList
  | [], _ => .nil
  | x :: r, h => List.pairwise_cons.mpr (rising_pw r x h)
theorem sortedS_one {xs ys : List Str} (hx : sortedS xs = true) (hy : sortedS ys = true) (p : xs.Perm ys) : xs = ys :=
  List.Perm.eq_of_pairwise (le := fun a b => ¬ b.cps.toList < a.cps.toList) (fun a b _ _ h1 h2 => by
    rcases str_tot a b with h | h | h
    · exact absurd h h2
    · exact h
    · exact absurd h h1) (sortedS_pw hx) (sortedS_pw hy) p
/-! places -/
theorem kvR_val (R : Tb) (n : Str) : valV (kvR R) (Sum.inr n) = (valG R n).map fun b => V.ref b.1 := kvG_val _ _ _
theorem kvR_keys (R : Tb) : (kvR R).map (·.1) = (R.map (·.1)).map Sum.inr := by
  unfold kvR kvG
  rw [List.map_map, List.map_map]
  rfl
theorem mem_val {R : Tb} {n : Str} (h : n ∈ R.map (·.1)) : ∃ q c, valG R n = some (q, c) ∧ (n, q, c) ∈ R := by
  cases e : valG R n with
  | none =>
    obtain ⟨x, mx, ex⟩ := List.mem_map.mp h
    exact absurd ex (valG_none e x mx)
  | some b => exact ⟨b.1, b.2, rfl, valG_mem e⟩
theorem dget_n {H : Hp} {d : Addr} {R : Tb} {n : Str} {q : Addr} {c : List V} (h : Rd H d (.dK (kvR R))) (e : valG R n = some (q, c)) : DGet H d (.str n) (some (.ref q)) := by
  refine .inl ⟨kvR R, Sum.inr n, h, rfl, ?_⟩
  rw [kvR_val, e]
  rfl
theorem ix_tup_K {X : Cx} {K : PySem.W.Frag} (e : X.K = K) : IxR X (rIxT K) := by
  subst e
  exact ix_tup
theorem pe_fld_K {X : Cx} {K : PySem.W.Frag} (e : X.K = K) {o : Expr} {ta : TE} {f : Str} {pos : Pos} (ha : PE X o ta) (hb : attributeBase o f X.env (eval o X.env) = eval o X.env) : PE X (.Attribute o f pos) (tFld K ta f) := by
  subst e
  exact pe_fld ha hb
theorem Same.lock {d : Addr} {od : Obj} {u : HO} {H H' : Hp} (hd : H d = some u) (s : Same (upd H d (.frz od u)) H') : Same H (upd H' d u) := fun b o e => by
  by_cases w : b = d
  · subst w
    rw [upd_same, ← hd, e]
  · rw [upd_ne w]
    exact s b o (by rw [upd_ne w]; exact e)
theorem kvR_at {R : Tb} {i : Nat} {k : Key} {v : V} (h : (kvR R)[i]? = some (k, v)) : ∃ e, R[i]? = some e ∧ k = Sum.inr e.1 ∧ v = .ref e.2.1 := by
  unfold kvR kvG at h
  rw [List.getElem?_map] at h
  cases z : R[i]? with
  | none => rw [z] at h; cases h
  | some e =>
    rw [z] at h
    have := Option.some.inj h
    exact ⟨e, rfl, (congrArg Prod.fst this).symm, (congrArg Prod.snd this).symm⟩
theorem ix_list_K {X : Cx} {K : PySem.W.Frag} (e : X.K = K) : IxR X (rIxL K) := by
  subst e
  exact ix_list
theorem op_catA_K {X : Cx} {K : PySem.W.Frag} (e : X.K = K) : OpR X (binaryOp .Add) (rCatA K) := by
  subst e
  exact op_catA
theorem kv_names (R : Tb) : (kvR R).map (fun kv => kV kv.1) = (R.map (·.1)).map V.str := by
  unfold kvR kvG
  rw [List.map_map, List.map_map]
  rfl
theorem kvF_names (F : Fb) : (kvF F).map (fun kv => kV kv.1) = (F.map (·.1)).map V.str := by
  unfold kvF kvG
  rw [List.map_map, List.map_map]
  rfl
theorem strs_get {ys : List Str} {i : Nat} {y : V} (h : (ys.map V.str)[i]? = some y) : ∃ n, ys[i]? = some n ∧ y = .str n := by
  rw [List.getElem?_map] at h
  cases e : ys[i]? with
  | none => rw [e] at h; cases h
  | some t => rw [e] at h; exact ⟨t, rfl, (Option.some.inj h).symm⟩
theorem take_snoc' {α : Type} {xs : List α} {i : Nat} {x : α} (h : xs[i]? = some x) : xs.take (i + 1) = xs.take i ++ [x] := by
  rw [List.take_add_one, h]
  rfl
theorem dgetF {H : Hp} {d : Addr} {F : Fb} {n : Str} {q : Addr} {c : List (Addr × List V)} (h : Rd H d (.dK (kvF F))) (e : valG F n = some (q, c)) : DGet H d (.str n) (some (.ref q)) := by
  refine .inl ⟨kvF F, Sum.inr n, h, rfl, ?_⟩
  rw [kvF_val, e]
  rfl
theorem Rng.tk {K : PySem.W.Frag} {d p : Addr} {H H' : Hp} (r : Rng d H p) (g : Gw p H H') : Tk K H H' := by
  obtain ⟨ds, k, h, _⟩ := r
  exact Tk.gw h g
theorem cut_take (xs : List V) {v : Int} (h : 0 ≤ v) : cutV xs none (some v) = xs.take v.toNat := by
  unfold cutV
  have e : v = ((v.toNat : Nat) : Int) := by omega
  have i2 : HT.sIx xs.length xs.length (some v) = min v.toNat xs.length := by
    have := HT.sIx_nat xs.length xs.length v.toNat
    rw [← e] at this
    exact this
  rw [HT.sIx_none, i2, List.drop_zero, Nat.sub_zero]
  by_cases hv : v.toNat ≤ xs.length
  · rw [Nat.min_eq_left hv]
  · rw [Nat.min_eq_right (by omega), List.take_length, List.take_of_length_le (by omega)]
def rTupK (K : PySem.W.Frag) : List V → Hp → VK → Prop := fun xs H Q => ∃ p ys, xs = [V.ref p] ∧ ((SqL K H p ys ∧ ∀ l, H l = none → Q (.ref l) (upd H l (.tup ys))) ∨ (SqT K H p ys ∧ Q (.ref p) H))
theorem call_tuple_K {X : Cx} {K : PySem.W.Frag} (e : X.K = K) : CallR X (.type "tuple") (rTupK K) := by
  subst e
  exact call_tuple_of
theorem hu65 {k : Nat} {A : Around} (hr : Room k A) : A.units + 65 < cLine := by have := hr.un; omega
end K1
namespace K1
open PySem PySem.Spec PyProof.Rows L2 Ow Tlz
/-! data that the law compares -/
structure Gd (k : Nat) (x : PyData) : Prop where
  i : ist x = true
  d : PyData.depth x ≤ k
  c : PyData.canLay0 x = true
theorem Gd.up {k j : Nat} {d : PyData} (h : Gd k d) (l : k ≤ j) : Gd j d := ⟨h.i, Nat.le_trans h.d l, h.c⟩
theorem Gd.tup {k : Nat} {ds : List PyData} (l : ds.length ≤ 1000) (h : ∀ d ∈ ds, Gd k d) : Gd (k + 1) (.tuple ds) := by
  refine ⟨ist_tup l fun x m => (h x m).i, ?_, ?_⟩
  · rw [PyData.depth]
    have := depthAll_le fun x m => (h x m).d
    omega
  · rw [PyData.canLay0]
    exact layAll fun x m => (h x m).c
theorem Gd.lst {k : Nat} {ds : List PyData} (l : ds.length ≤ 1000) (h : ∀ d ∈ ds, Gd k d) : Gd (k + 1) (.list ds) := by
  refine ⟨ist_lst l fun x m => (h x m).i, ?_, ?_⟩
  · rw [PyData.depth]
    have := depthAll_le fun x m => (h x m).d
    omega
  · rw [PyData.canLay0]
    exact layAll fun x m => (h x m).c
theorem Gd.int (i : Int) : Gd 0 (.int i) := ⟨by rw [ist], by simp [PyData.depth], by simp [PyData.canLay0]⟩
theorem Gd.bool (i : Bool) : Gd 0 (.bool i) := ⟨by rw [ist], by simp [PyData.depth], by simp [PyData.canLay0]⟩
theorem Gd.str {z : Str} (p : Pr z) : Gd 0 (.str z) := ⟨by rw [ist], by simp [PyData.depth], p.ok⟩
theorem Gd.sc {v : V} (h : Scal v) : Gd 0 (scD v) := by
  rcases h with ⟨i, rfl, _⟩ | ⟨z, rfl, p, _⟩
  · exact Gd.int i
  · exact Gd.str p
theorem Gd.row {xs : List V} (h : ∀ x ∈ xs, Scal x) (l : xs.length ≤ 1000) : Gd 1 (rowD xs) := by
  refine Gd.tup (by rw [List.length_map]; exact l) fun d m => ?_
  obtain ⟨x, mx, rfl⟩ := List.mem_map.mp m
  exact Gd.sc (h x mx)
theorem Gd.shaped {k : Nat} {d : PyData} (h : Gd k d) (l : k ≤ 60) : SeqAt.shaped d = true := shaped_of h.c h.d l
/-- some values with data -/
def CD (K : PySem.W.Frag) (H : Hp) (c : List V) : Prop := ∃ ds, DpAll K H c ds ∧ (∀ d ∈ ds, Gd 1 d) ∧ noLs ds = true
theorem CD.tk {K : PySem.W.Frag} {H H' : Hp} {c : List V} (t : Tk K H H') (h : CD K H c) : CD K H' c := by
  obtain ⟨ds, a, b, n⟩ := h
  exact ⟨ds, DpAll.tk t ds _ n a, b, n⟩
theorem CD.same {K : PySem.W.Frag} {H H' : Hp} {c : List V} (s : Same H H') (h : CD K H c) : CD K H' c := h.tk (Tk.same s)
theorem CD.cons {K : PySem.W.Frag} {H : Hp} {v : V} {c : List V} {d : PyData} (a : Dp K H v d) (g : Gd 1 d) (n : noL d = true) (h : CD K H c) : CD K H (v :: c) := by
  obtain ⟨ds, b, e, m⟩ := h
  refine ⟨d :: ds, .cons a b, fun x m => ?_, by rw [noLs, n, m]; rfl⟩
  rcases List.mem_cons.mp m with z | z
  · rw [z]; exact g
  · exact e x z
theorem CD.nil {K : PySem.W.Frag} {H : Hp} : CD K H [] := ⟨[], .nil, (fun _ m => by cases m), by rw [noLs]⟩
theorem CD.int {K : PySem.W.Frag} {H : Hp} {i : Int} {c : List V} (h : CD K H c) : CD K H (.int i :: c) := CD.cons (.int i) ((Gd.int i).up (by omega)) (by rw [noL] <;> simp) h
theorem CD.str {K : PySem.W.Frag} {H : Hp} {z : Str} {c : List V} (p : Pr z) (h : CD K H c) : CD K H (.str z :: c) := CD.cons (.str z) ((Gd.str p).up (by omega)) (by rw [noL] <;> simp) h
/-- texts -/
theorem strs_dp {K : PySem.W.Frag} {H : Hp} : ∀ {xs : List V}, (∀ x ∈ xs, ∃ z, x = .str z ∧ Pr z) → ∃ ds, DpAll K H xs ds ∧ (∀ d ∈ ds, Gd 0 d) ∧ noLs ds = true
  | [], _ => ⟨[], .nil, (fun _ m => by cases m), by rw [noLs]⟩
  | x :: xs, h => by
    obtain ⟨ds, a, b, n⟩ := strs_dp (K := K) (H := H) (xs := xs) fun y m => h y (List.mem_cons_of_mem _ m)
    obtain ⟨z, rfl, p⟩ := h x List.mem_cons_self
    refine ⟨.str z :: ds, .cons (.str z) a, fun d m => ?_, by rw [noLs, n]; simp [noL]⟩
    rcases List.mem_cons.mp m with e | m
    · rw [e]; exact Gd.str p
    · exact b d m
theorem CD.strs {K : PySem.W.Frag} {H : Hp} {a : Addr} {xs c : List V} (h : SqT K H a xs) (hx : ∀ x ∈ xs, ∃ z, x = .str z ∧ Pr z) (l : xs.length ≤ 1000) (t : CD K H c) : CD K H (.ref a :: c) := by
  obtain ⟨ds, b, e, n⟩ := strs_dp (K := K) (H := H) hx
  exact CD.cons (.tup h b) (Gd.tup (by rw [← DpAll.len b]; exact l) e) (by rw [noL]; exact n) t
/-! items with data -/
def itn : It → Str
  | .rel n _ => n
  | .fact n _ _ => n
  | .str n _ => n
  | .lay n _ => n
def cnt : It → List V
  | .rel _ c => c
  | .fact _ _ _ => []
  | .str _ c => c
  | .lay _ v => [v]
def cln : It → Nat
  | .rel _ _ => 2
  | .fact _ _ _ => 0
  | .str _ _ => 4
  | .lay _ _ => 1
structure ItG (K : PySem.W.Frag) (H : Hp) (a : Addr) (i : It) : Prop where
  at_ : ItAt K H a i
  n : Pr (itn i)
  c : CD K H (cnt i)
  l : (cnt i).length = cln i
theorem ItG.tk {K : PySem.W.Frag} {H H' : Hp} {a : Addr} {i : It} (t : Tk K H H') (h : ItG K H a i) : ItG K H' a i := ⟨h.at_.tk t, h.n, h.c.tk t, h.l⟩
theorem ItG.same {K : PySem.W.Frag} {H H' : Hp} {a : Addr} {i : It} (s : Same H H') (h : ItG K H a i) : ItG K H' a i := ⟨h.at_.tk (Tk.same s), h.n, h.c.same s, h.l⟩
def irf (its : Its) : List V := its.map fun t => .ref t.1
def ItsG (K : PySem.W.Frag) (H : Hp) (its : Its) : Prop := ∀ t ∈ its, ItG K H t.1 t.2
theorem ItsG.tk {K : PySem.W.Frag} {H H' : Hp} {its : Its} (s : Tk K H H') (h : ItsG K H its) : ItsG K H' its := fun t m => (h t m).tk s
theorem ItsG.same {K : PySem.W.Frag} {H H' : Hp} {its : Its} (s : Same H H') (h : ItsG K H its) : ItsG K H' its := fun t m => (h t m).same s
theorem ItsG.sc {K : PySem.W.Frag} {H : Hp} {its : Its} (h : ItsG K H its) : ScI its := fun t m => by
  have g := (h t m).at_
  obtain ⟨a, i⟩ := t
  cases i with
  | fact n r row => exact g.2.2.1
  | rel n c => exact fun _ m => by cases m
  | str n c => exact fun _ m => by cases m
  | lay n v => exact fun _ m => by cases m
theorem irf_get {its : Its} {i : Nat} {x : V} (h : (irf its)[i]? = some x) : ∃ t, its[i]? = some t ∧ x = .ref t.1 := by
  unfold irf at h
  rw [List.getElem?_map] at h
  cases e : its[i]? with
  | none => rw [e] at h; cases h
  | some t => rw [e] at h; exact ⟨t, rfl, (Option.some.inj h).symm⟩
theorem irf_len (its : Its) : (irf its).length = its.length := by unfold irf; rw [List.length_map]
theorem irf_app (its jts : Its) : irf (its ++ jts) = irf its ++ irf jts := by unfold irf; rw [List.map_append]
theorem ItsG.app {K : PySem.W.Frag} {H : Hp} {its jts : Its} (h : ItsG K H its) (g : ItsG K H jts) : ItsG K H (its ++ jts) := fun t m => by
  rcases List.mem_append.mp m with m | m
  · exact h t m
  · exact g t m
theorem ItsG.one {K : PySem.W.Frag} {H : Hp} {t : Addr × It} (h : ItG K H t.1 t.2) : ItsG K H [t] := fun u m => by rw [List.mem_singleton.mp m]; exact h
/-- the data of an item: what its key and its content tell -/
theorem it_data {K : PySem.W.Frag} {H : Hp} {a b : Addr} {i j : It} (h : ItG K H a i) (g : ItG K H b j) (e : ier i = ier j) : ∃ d, Dp K H (.ref a) d ∧ Dp K H (.ref b) d ∧ Gd 2 d := by
  have pw : ∀ w : String, (w = "relation" ∨ w = "fact" ∨ w = "structure" ∨ w = "layout") → Pr (PySem.Str.ofString w) := fun w hw => by
    rcases hw with rfl | rfl | rfl | rfl <;> decide +kernel
  have two : ∀ {w n : Str} {ds : List PyData} {c : List V}, Pr w → Pr n → DpAll K H c ds → (∀ d ∈ ds, Gd 1 d) → c.length ≤ 10 → Gd 2 (.tuple (.str w :: .str n :: ds)) := fun {w n ds c} p1 p2 a h l => by
    have := DpAll.len a
    refine Gd.tup (k := 1) (by rw [List.length_cons, List.length_cons]; omega) fun d m => ?_
    rcases List.mem_cons.mp m with z | m
    · rw [z]; exact (Gd.str p1).up (by omega)
    · rcases List.mem_cons.mp m with z | m
      · rw [z]; exact (Gd.str p2).up (by omega)
      · exact h d m
  cases i with
  | rel n c =>
    cases j with
    | rel m c' =>
      have e1 : n = m := congrArg (fun x => x.2.1) e
      have e2 : c = c' := congrArg (fun x => x.2.2.2) e
      subst e1 e2
      obtain ⟨ds, hd, hg, _⟩ := h.c
      have hd' : DpAll K H c ds := hd
      exact ⟨_, .tup h.at_ (.cons (.str _) (.cons (.str _) hd')), .tup g.at_ (.cons (.str _) (.cons (.str _) hd')), two (pw "relation" (.inl rfl)) h.n hd' hg (by have := h.l; simp [cnt, cln] at this; omega)⟩
    | _ => exact absurd (congrArg (fun x => x.1) e) (by simp [ier])
  | str n c =>
    cases j with
    | str m c' =>
      have e1 : n = m := congrArg (fun x => x.2.1) e
      have e2 : c = c' := congrArg (fun x => x.2.2.2) e
      subst e1 e2
      obtain ⟨ds, hd, hg, _⟩ := h.c
      have hd' : DpAll K H c ds := hd
      exact ⟨_, .tup h.at_ (.cons (.str _) (.cons (.str _) hd')), .tup g.at_ (.cons (.str _) (.cons (.str _) hd')), two (pw "structure" (.inr (.inr (.inl rfl)))) h.n hd' hg (by have := h.l; simp [cnt, cln] at this; omega)⟩
    | _ => exact absurd (congrArg (fun x => x.1) e) (by simp [ier])
  | lay n v =>
    cases j with
    | lay m v' =>
      have e1 : n = m := congrArg (fun x => x.2.1) e
      have e2 : [v] = [v'] := congrArg (fun x => x.2.2.2) e
      cases e2
      subst e1
      obtain ⟨ds, hd, hg, _⟩ := h.c
      have hd' : DpAll K H [v] ds := hd
      exact ⟨_, .tup h.at_ (.cons (.str _) (.cons (.str _) hd')), .tup g.at_ (.cons (.str _) (.cons (.str _) hd')), two (pw "layout" (.inr (.inr (.inr rfl)))) h.n hd' hg (by show 1 ≤ 10; decide)⟩
    | _ => exact absurd (congrArg (fun x => x.1) e) (by simp [ier])
  | fact n r row =>
    cases j with
    | fact m r' row' =>
      have e1 : n = m := congrArg (fun x => x.2.1) e
      have e2 : row = row' := congrArg (fun x => x.2.2.1) e
      subst e1 e2
      obtain ⟨h1, h2, h3, h4⟩ := h.at_
      obtain ⟨g1, g2, _, _⟩ := g.at_
      refine ⟨.tuple [.str "fact", .str n, rowD row], .tup h1 (.cons (.str _) (.cons (.str _) (.cons (.tup h2 (sc_dp h3)) .nil))), .tup g1 (.cons (.str _) (.cons (.str _) (.cons (.tup g2 (sc_dp h3)) .nil))), ?_⟩
      refine Gd.tup (by show 3 ≤ 1000; decide) fun d m => ?_
      simp only [List.mem_cons, List.not_mem_nil, or_false] at m
      rcases m with z | z | z
      · rw [z]; exact (Gd.str (pw "fact" (.inr (.inl rfl)))).up (by omega)
      · rw [z]; exact (Gd.str h.n).up (by omega)
      · rw [z]; exact Gd.row h3 (by omega)
    | _ => exact absurd (congrArg (fun x => x.1) e) (by simp [ier])
theorem its_data {K : PySem.W.Frag} {H : Hp} : ∀ {its jts : Its}, ItsG K H its → ItsG K H jts → its.map te = jts.map te → ∃ ds, DpAll K H (irf its) ds ∧ DpAll K H (irf jts) ds ∧ ∀ d ∈ ds, Gd 2 d
  | [], [], _, _, _ => ⟨[], .nil, .nil, fun _ m => by cases m⟩
  | [], _ :: _, _, _, e => by cases e
  | _ :: _, [], _, _, e => by cases e
  | t :: its, u :: jts, h, g, e => by
    rw [List.map_cons, List.map_cons] at e
    obtain ⟨ds, a, b, c⟩ := its_data (its := its) (jts := jts) (fun x m => h x (List.mem_cons_of_mem _ m)) (fun x m => g x (List.mem_cons_of_mem _ m)) (List.cons.inj e).2
    obtain ⟨d, p, q, r⟩ := it_data (h t List.mem_cons_self) (g u List.mem_cons_self) (List.cons.inj e).1
    refine ⟨d :: ds, .cons p a, .cons q b, fun x m => ?_⟩
    rcases List.mem_cons.mp m with z | m
    · rw [z]; exact r
    · exact c x m
/-! all items of tables, in their order -/
def cOf (R : Tb) (n : Str) : List V := match valG R n with
  | some (_, c) => c
  | none => []
def rOf (F : Fb) (n : Str) : List (Addr × List V) := match valG F n with
  | some (_, rs) => rs
  | none => []
def lOf (L : List (Str × V)) (n : Str) : V := match valG L n with
  | some v => v
  | none => .non
def allE (R : Tb) (F : Fb) (S : Tb) (L : List (Str × V)) (ys fs ss ls : List Str) : List Kt :=
  ys.map (fun n => ier (.rel n (cOf R n))) ++ (fs.flatMap fun n => (rOf F n).map fun t => ier (.fact n t.1 t.2)) ++ ss.map (fun n => ier (.str n (cOf S n))) ++ ls.map fun n => ier (.lay n (lOf L n))
theorem strict {ys : List Str} (nd : ys.Nodup) (h : sortedS ys = true) : ys.Pairwise fun a b => a.cps.toList < b.cps.toList := by
  refine (List.Pairwise.and (sortedS_pw h) nd).imp fun {a b} ⟨h1, h2⟩ => ?_
  rcases str_tot a b with z | z | z
  · exact z
  · exact absurd z h2
  · exact absurd z h1
theorem lt_rel {n m : Str} {c c' : List V} (h : n.cps.toList < m.cps.toList) : tLt (ier (.rel n c)) (ier (.rel m c')) := (tLt_iff (0, n, [], c) (0, m, [], c')).mpr (.inr ⟨rfl, .inl h⟩)
theorem lt_str {n m : Str} {c c' : List V} (h : n.cps.toList < m.cps.toList) : tLt (ier (.str n c)) (ier (.str m c')) := (tLt_iff (2, n, [], c) (2, m, [], c')).mpr (.inr ⟨rfl, .inl h⟩)
theorem lt_lay {n m : Str} {c c' : V} (h : n.cps.toList < m.cps.toList) : tLt (ier (.lay n c)) (ier (.lay m c')) := (tLt_iff (3, n, [], [c]) (3, m, [], [c'])).mpr (.inr ⟨rfl, .inl h⟩)
theorem lt_fact {n m : Str} {r r' : Addr} {c c' : List V} (h : n.cps.toList < m.cps.toList ∨ (n = m ∧ Rlt c c')) : tLt (ier (.fact n r c)) (ier (.fact m r' c')) := (tLt_iff (1, n, c, []) (1, m, c', [])).mpr (.inr ⟨rfl, h⟩)
theorem allE_eq {os : Its} {R S : Tb} {F : Fb} {L : List (Str × V)} {ys fs ss ls : List Str} (h : Rep os R F S L) (ks : KSrt os) (so : ScI os) (py : ys.Perm (R.map (·.1))) (sy : sortedS ys = true) (pf : fs.Perm (F.map (·.1))) (sf : sortedS fs = true)
    (ps : ss.Perm (S.map (·.1))) (ss' : sortedS ss = true) (pl : ls.Perm (L.map (·.1))) (sl : sortedS ls = true) : allE R F S L ys fs ss ls = os.map te := by
  have k1 := strict (py.nodup_iff.mpr h.rn) sy
  have k2 := strict (pf.nodup_iff.mpr h.fd) sf
  have k3 := strict (ps.nodup_iff.mpr h.sn) ss'
  have k4 := strict (pl.nodup_iff.mpr h.ln) sl
  have mt : ∀ x, x ∈ os.map te ↔ ∃ i, Has os i ∧ ier i = x := fun x => by
    rw [List.mem_map]
    exact ⟨fun ⟨t, m, e⟩ => ⟨t.2, ⟨t.1, m⟩, e⟩, fun ⟨i, ⟨a, m⟩, e⟩ => ⟨(a, i), m, e⟩⟩
  have rsc : ∀ n, ∀ t ∈ rOf F n, ∀ x ∈ t.2, Scal x := fun n => by
    unfold rOf
    cases e : valG F n with
    | none => exact fun _ m => by cases m
    | some b => exact (h.fs _ _ _ e).2
  have m1 : ∀ x, x ∈ ys.map (fun n => ier (.rel n (cOf R n))) ↔ ∃ n c, Has os (.rel n c) ∧ ier (.rel n c) = x := fun x => by
    rw [List.mem_map]
    constructor
    · rintro ⟨n, m, e⟩
      have z := valG_key.mp (py.mem_iff.mp m)
      cases ev : valG R n with
      | none => rw [ev] at z; cases z
      | some b =>
        have ec : cOf R n = b.2 := by unfold cOf; rw [ev]
        exact ⟨n, b.2, (h.r n b.2).mp ⟨b.1, ev⟩, by rw [← ec]; exact e⟩
    · rintro ⟨n, c, hs, e⟩
      obtain ⟨q, ev⟩ := (h.r n c).mpr hs
      have ec : cOf R n = c := by unfold cOf; rw [ev]
      exact ⟨n, py.mem_iff.mpr (valG_key.mpr (by rw [ev]; rfl)), by rw [ec]; exact e⟩
  have m3 : ∀ x, x ∈ ss.map (fun n => ier (.str n (cOf S n))) ↔ ∃ n c, Has os (.str n c) ∧ ier (.str n c) = x := fun x => by
    rw [List.mem_map]
    constructor
    · rintro ⟨n, m, e⟩
      have z := valG_key.mp (ps.mem_iff.mp m)
      cases ev : valG S n with
      | none => rw [ev] at z; cases z
      | some b =>
        have ec : cOf S n = b.2 := by unfold cOf; rw [ev]
        exact ⟨n, b.2, (h.s n b.2).mp ⟨b.1, ev⟩, by rw [← ec]; exact e⟩
    · rintro ⟨n, c, hs, e⟩
      obtain ⟨q, ev⟩ := (h.s n c).mpr hs
      have ec : cOf S n = c := by unfold cOf; rw [ev]
      exact ⟨n, ps.mem_iff.mpr (valG_key.mpr (by rw [ev]; rfl)), by rw [ec]; exact e⟩
  have m4 : ∀ x, x ∈ ls.map (fun n => ier (.lay n (lOf L n))) ↔ ∃ n v, Has os (.lay n v) ∧ ier (.lay n v) = x := fun x => by
    rw [List.mem_map]
    constructor
    · rintro ⟨n, m, e⟩
      have z := valG_key.mp (pl.mem_iff.mp m)
      cases ev : valG L n with
      | none => rw [ev] at z; cases z
      | some b =>
        have ec : lOf L n = b := by unfold lOf; rw [ev]
        exact ⟨n, b, (h.l n b).mp ev, by rw [← ec]; exact e⟩
    · rintro ⟨n, c, hs, e⟩
      have ev := (h.l n c).mpr hs
      have ec : lOf L n = c := by unfold lOf; rw [ev]
      exact ⟨n, pl.mem_iff.mpr (valG_key.mpr (by rw [ev]; rfl)), by rw [ec]; exact e⟩
  have m2 : ∀ x, x ∈ (fs.flatMap fun n => (rOf F n).map fun t => ier (.fact n t.1 t.2)) ↔ ∃ n r row, Has os (.fact n r row) ∧ ier (.fact n r row) = x := fun x => by
    rw [List.mem_flatMap]
    constructor
    · rintro ⟨n, m, mm⟩
      obtain ⟨t, mt, e⟩ := List.mem_map.mp mm
      have z := valG_key.mp (pf.mem_iff.mp m)
      cases ev : valG F n with
      | none => rw [ev] at z; cases z
      | some b =>
        have ec : rOf F n = b.2 := by unfold rOf; rw [ev]
        rw [ec] at mt
        obtain ⟨r, hr⟩ := (h.f n t.2).mp ⟨b.1, b.2, ev, t.1, mt⟩
        exact ⟨n, r, t.2, hr, e⟩
    · rintro ⟨n, r, row, hs, e⟩
      obtain ⟨q, rs, ev, r', mr⟩ := (h.f n row).mpr ⟨r, hs⟩
      have ec : rOf F n = rs := by unfold rOf; rw [ev]
      exact ⟨n, pf.mem_iff.mpr (valG_key.mpr (by rw [ev]; rfl)), List.mem_map.mpr ⟨(r', row), by rw [ec]; exact mr, e⟩⟩
  have lo : ∀ (a b : Kt), a.1 < b.1 → tLt a b := fun a b l => (tLt_iff a b).mpr (.inl l)
  have tsc : ∀ x ∈ allE R F S L ys fs ss ls, tSc x := fun x m => by
    unfold allE at m
    rw [List.mem_append, List.mem_append, List.mem_append, m1, m2, m3, m4] at m
    rcases m with ((⟨n, c, _, e⟩ | ⟨n, r, row, ⟨a, m⟩, e⟩) | ⟨n, c, _, e⟩) | ⟨n, v, _, e⟩
    · rw [← e]; exact fun _ m => by cases m
    · rw [← e]; exact so _ m
    · rw [← e]; exact fun _ m => by cases m
    · rw [← e]; exact fun _ m => by cases m
  refine srt_uniq (lt := tLt) ?_ (List.pairwise_map.mpr ks) (fun x mx y my => tLt_asym (tsc x mx) (tsc y my)) fun x => ?_
  · unfold allE
    rw [List.pairwise_append, List.pairwise_append, List.pairwise_append]
    refine ⟨⟨⟨?_, ?_, ?_⟩, ?_, ?_⟩, ?_, ?_⟩
    · exact List.pairwise_map.mpr (k1.imp fun h => lt_rel h)
    · rw [List.pairwise_flatMap]
      refine ⟨fun n _ => ?_, k2.imp fun {a b} hab x mx y my => ?_⟩
      · rw [List.pairwise_map]
        have : Srt (rOf F n) := by
          unfold rOf
          cases e : valG F n with
          | none => exact .nil
          | some b => exact (h.fs _ _ _ e).1
        exact this.imp fun h => lt_fact (.inr ⟨rfl, h⟩)
      · obtain ⟨t, _, e1⟩ := List.mem_map.mp mx
        obtain ⟨u, _, e2⟩ := List.mem_map.mp my
        rw [← e1, ← e2]
        exact lt_fact (.inl hab)
    · intro a ma b mb
      obtain ⟨n, c, _, e⟩ := (m1 a).mp ma
      obtain ⟨n', r, row, _, e'⟩ := (m2 b).mp mb
      rw [← e, ← e']
      exact lo _ _ (by show (0 : Int) < 1; decide)
    · exact List.pairwise_map.mpr (k3.imp fun h => lt_str h)
    · intro a ma b mb
      obtain ⟨n', c', _, e'⟩ := (m3 b).mp mb
      rw [← e']
      rcases List.mem_append.mp ma with ma | ma
      · obtain ⟨n, c, _, e⟩ := (m1 a).mp ma
        rw [← e]
        exact lo _ _ (by show (0 : Int) < 2; decide)
      · obtain ⟨n, r, row, _, e⟩ := (m2 a).mp ma
        rw [← e]
        exact lo _ _ (by show (1 : Int) < 2; decide)
    · exact List.pairwise_map.mpr (k4.imp fun h => lt_lay h)
    · intro a ma b mb
      obtain ⟨n', c', _, e'⟩ := (m4 b).mp mb
      rw [← e']
      rcases List.mem_append.mp ma with ma | ma
      · rcases List.mem_append.mp ma with ma | ma
        · obtain ⟨n, c, _, e⟩ := (m1 a).mp ma
          rw [← e]
          exact lo _ _ (by show (0 : Int) < 3; decide)
        · obtain ⟨n, r, row, _, e⟩ := (m2 a).mp ma
          rw [← e]
          exact lo _ _ (by show (1 : Int) < 3; decide)
      · obtain ⟨n, c, _, e⟩ := (m3 a).mp ma
        rw [← e]
        exact lo _ _ (by show (2 : Int) < 3; decide)
  · rw [mt]
    unfold allE
    rw [List.mem_append, List.mem_append, List.mem_append, m1, m2, m3, m4]
    constructor
    · rintro (((⟨n, c, hs, e⟩ | ⟨n, r, row, hs, e⟩) | ⟨n, c, hs, e⟩) | ⟨n, v, hs, e⟩)
      · exact ⟨_, hs, e⟩
      · exact ⟨_, hs, e⟩
      · exact ⟨_, hs, e⟩
      · exact ⟨_, hs, e⟩
    · rintro ⟨i, hs, e⟩
      cases i with
      | rel n c => exact .inl (.inl (.inl ⟨n, c, hs, e⟩))
      | fact n r row => exact .inl (.inl (.inr ⟨n, r, row, hs, e⟩))
      | str n c => exact .inl (.inr ⟨n, c, hs, e⟩)
      | lay n v => exact .inr ⟨n, v, hs, e⟩
end K1
namespace K1
open PySem PySem.Spec PyProof.Rows L2 Ow
abbrev N_law_name : List Str := ["state"]
section
variable {P : Program} {w : World} {K : PySem.W.Frag} {mg : Str → Option Value} {base : Heap}
end
end K1

namespace K1
open PySem PySem.Spec PyProof.Rows L2 Ow
abbrev N_law_row : List Str := ["state", "width", "k"]
section
variable {P : Program} {w : World} {K : PySem.W.Frag} {mg : Str → Option Value} {base : Heap}
end
end K1

namespace K1
open PySem PySem.Spec PyProof.Rows L2 Ow Tlz
abbrev N_law_key : List Str := ["item"]
abbrev sortTab : List (Key × V) := mergeK [] [(Sum.inr "relation", .int 0), (Sum.inr "structure", .int 2), (Sum.inr "layout", .int 3)]
theorem tab0 : valV sortTab (Sum.inr "relation") = some (.int 0) := by decide +kernel
theorem tab2 : valV sortTab (Sum.inr "structure") = some (.int 2) := by decide +kernel
theorem tab3 : valV sortTab (Sum.inr "layout") = some (.int 3) := by decide +kernel
section
variable {P : Program} {w : World} {K : PySem.W.Frag} {mg : Str → Option Value} {base : Heap}
/-- the key as a new tuple -/
theorem key_new {H H1 : Hp} {Q : VK} {s : Int} {n : Str} {row : List V} {r : Addr} (q : Mak H Q fun y H' => KeyAt K H' y s n row) (sm : Same H H1) (hr : SqT K H1 r row) (pn : Pr n)
    (sr : ∀ y ∈ row, Scal y) (lr : row.length ≤ 1000) : ∀ p, H1 p = none → Q (.ref p) (upd H1 p (.tup [.int s, .str n, .ref r])) := fun p np =>
  q _ _ ⟨p, r, rfl, SqT.of upd_same, Tk.same (Same.new np) _ _ hr, pn, sr, lr⟩ (sm.trans (Same.new np))
end
end K1

namespace K1
open PySem PySem.Spec PyProof.Rows L2 Ow Tlz
abbrev N_law_key_order : List Str := ["first", "second"]
theorem cutp2 (a b c : V) : cutV [a, b, c] none (some 2) = [a, b] := rfl
theorem lay2 {s : Int} {n : Str} (p : Pr n) : (kd2 s n).canLay0 = true := by
  have a := p.ok
  unfold kd2
  rw [PyData.canLay0, PyData.canLayAll0, PyData.canLayAll0, PyData.canLayAll0, a]
  simp [PyData.canLay0]
theorem deep2 (s : Int) (n : Str) : (kd2 s n).depth ≤ 1 := by
  simp [kd2, PyData.depth, PyData.depthAll]
theorem ok2 (s s' : Int) (n n' : Str) : okD 1 (kd2 s n) (kd2 s' n') = true := by
  simp only [kd2, okD, okL]
  split
  · split <;> rfl
  · rfl
section
variable {P : Program} {w : World} {K : PySem.W.Frag} {mg : Str → Option Value} {base : Heap}
end
end K1
namespace K1
open PySem PySem.Spec PyProof.Rows L2 Ow Tlz
abbrev N_law_item : List Str := ["state", "pick", "name", "columns"]
def spItemG (K : PySem.W.Frag) : Sp := fun vs H Q _ => ∃ p d : Addr, vs = [.ref p] ∧ Rng d H p ∧
  Drw p d H Q fun x H' => ∃ (a : Addr) (i : It), x = .ref a ∧ ItG K H' a i
theorem take_strs {ws : List Str} (h : ∀ w ∈ ws, Pr w) (z : Int) (z0 : 0 ≤ z) : ∀ x ∈ cutV (ws.map V.str) none (some z), ∃ w, x = .str w ∧ Pr w := fun x m => by
  rw [cut_take _ z0] at m
  obtain ⟨w, mw, e⟩ := List.mem_map.mp (List.mem_of_mem_take m)
  exact ⟨w, e.symm, h w mw⟩
theorem take_len {xs : List V} (z : Int) (z0 : 0 ≤ z) (l : xs.length ≤ 4) : (cutV xs none (some z)).length ≤ 1000 := by
  rw [cut_take _ z0, List.length_take]
  omega
section
variable {P : Program} {w : World} {K : PySem.W.Frag} {mg : Str → Option Value} {base : Heap}
end
end K1
namespace K1
open PySem PySem.Spec PyProof.Rows L2 Ow Tlz
theorem ItG.key {K : PySem.W.Frag} {H : Hp} {a : Addr} {i : It} (h : ItG K H a i) : ItemAt K H (.ref a) (ier i).1 (ier i).2.1 (ier i).2.2.1 := by
  have g := h.at_
  cases i with
  | rel n c => exact ⟨a, _, rfl, g, h.n, (fun _ m => by cases m), Nat.zero_le _, .inl ⟨c, rfl, rfl, rfl⟩⟩
  | fact n r row => exact ⟨a, _, rfl, g.1, h.n, g.2.2.1, Nat.le_trans g.2.2.2 (by show 10 ≤ 1000; decide), .inr (.inr (.inr ⟨r, rfl, rfl, g.2.1⟩))⟩
  | str n c => exact ⟨a, _, rfl, g, h.n, (fun _ m => by cases m), Nat.zero_le _, .inr (.inl ⟨c, rfl, rfl, rfl⟩)⟩
  | lay n v => exact ⟨a, _, rfl, g, h.n, (fun _ m => by cases m), Nat.zero_le _, .inr (.inr (.inl ⟨[v], rfl, rfl, rfl⟩))⟩
theorem cut_drop (xs : List V) (k : Nat) : cutV xs (some (k : Int)) none = xs.drop k := by
  unfold cutV
  rw [HT.sIx_nat, HT.sIx_none]
  by_cases h : k ≤ xs.length
  · rw [Nat.min_eq_left h]
    exact List.take_of_length_le (by rw [List.length_drop]; omega)
  · rw [List.drop_of_length_le (l := xs) (i := k) (by omega), List.drop_of_length_le (by omega), List.take_nil]
theorem cut_upto (xs : List V) (k : Nat) : cutV xs none (some (k : Int)) = xs.take k := by
  rw [cut_take _ (by omega)]
  rfl
def spPlaced (K : PySem.W.Frag) : Sp := fun vs H Q _ => ∃ (l a : Addr) (i : It) (os : Its), vs = [.ref l, .ref a] ∧ SqL K H l (irf os) ∧ ItsG K H os ∧ ItG K H a i ∧ os.length ≤ 300 ∧
  ∀ p H', Same H H' → H p = none → H' p = some (.lst (irf (plc os (a, i)))) → Q (.ref p) H'
abbrev N_law_placed : List Str := ["items", "item", "found", "at", "other", "order"]
abbrev N_law_some_items : List Str := ["state", "most", "items", "ordered", "item", "k"]
section
variable {P : Program} {w : World} {K : PySem.W.Frag} {mg : Str → Option Value} {base : Heap}
def spSome (K : PySem.W.Frag) : Sp := fun vs H Q _ => ∃ (p d : Addr) (m : Nat), vs = [.ref p, .int (m : Int)] ∧ m ≤ 30 ∧ Rng d H p ∧
  Drw p d H Q fun x H' => ∃ (q l o : Addr) (its : Its), x = .ref q ∧ H' q = some (.lst [.ref l, .ref o]) ∧ H' l = some (.lst (irf its)) ∧ H' o = some (.lst (irf (plcAll its))) ∧ ItsG K H' its ∧ its.length ≤ 40 ∧ l ≠ o ∧ l ≠ p ∧ o ≠ p ∧ l ≠ d ∧ o ≠ d
end
end K1
namespace K1
open PySem PySem.Spec PyProof.Rows L2 Ow Tlz
/-- the tables' content has data -/
structure TabG (K : PySem.W.Frag) (H : Hp) (R : Tb) (F : Fb) (S : Tb) (L : List (Str × V)) : Prop where
  r : ∀ n q c, valG R n = some (q, c) → Pr n ∧ c.length = 2 ∧ CD K H c
  s : ∀ n q c, valG S n = some (q, c) → Pr n ∧ c.length = 4 ∧ CD K H c
  l : ∀ n v, valG L n = some v → Pr n ∧ CD K H [v]
  f : ∀ n, (valG F n).isSome = true → Pr n
theorem TabG.same {K : PySem.W.Frag} {H H' : Hp} {R S : Tb} {F : Fb} {L : List (Str × V)} (s : Same H H') (h : TabG K H R F S L) : TabG K H' R F S L :=
  ⟨fun n q c e => ⟨(h.r n q c e).1, (h.r n q c e).2.1, (h.r n q c e).2.2.same s⟩, fun n q c e => ⟨(h.s n q c e).1, (h.s n q c e).2.1, (h.s n q c e).2.2.same s⟩, fun n v e => ⟨(h.l n v e).1, (h.l n v e).2.same s⟩, h.f⟩
theorem TabG.of {K : PySem.W.Frag} {H : Hp} {R S : Tb} {F : Fb} {L : List (Str × V)} {os : Its} (h : Rep os R F S L) (g : ItsG K H os) : TabG K H R F S L := by
  refine ⟨fun n q c e => ?_, fun n q c e => ?_, fun n v e => ?_, fun n e => ?_⟩
  · obtain ⟨a, m⟩ := (h.r n c).mp ⟨q, e⟩
    exact ⟨(g _ m).n, (g _ m).l, (g _ m).c⟩
  · obtain ⟨a, m⟩ := (h.s n c).mp ⟨q, e⟩
    exact ⟨(g _ m).n, (g _ m).l, (g _ m).c⟩
  · obtain ⟨a, m⟩ := (h.l n v).mp e
    exact ⟨(g _ m).n, (g _ m).c⟩
  · rcases (h.fn n).mp e with ⟨c, a, m⟩ | ⟨r, row, a, m⟩
    · exact (g _ m).n
    · exact (g _ m).n
def spAll (K : PySem.W.Frag) (C : Addr) : Sp := fun vs H Q _ => ∃ (x dr df ds dl : Addr) (Z : Addr → Prop) (R S : Tb) (F : Fb) (L : List (Str × V)) (b : Nat), vs = [.ref x] ∧ StAt K C Z H x dr df ds dl R F S L b ∧ b ≤ 300 ∧ TabG K H R F S L ∧
  R.length < 64 ∧ F.length < 64 ∧ S.length < 64 ∧ L.length < 64 ∧
  ∀ (its : Its) (p : Addr) (ys fs ss ls : List Str) H', ys.Perm (R.map (·.1)) → sortedS ys = true → fs.Perm (F.map (·.1)) → sortedS fs = true → ss.Perm (S.map (·.1)) → sortedS ss = true → ls.Perm (L.map (·.1)) → sortedS ls = true →
    its.map te = allE R F S L ys fs ss ls → Same H H' → H p = none → H' p = some (.lst (irf its)) → ItsG K H' its → Q (.ref p) H'
abbrev sAll : Stmt := inClass sState 1
abbrev NAll : List Str := ["self", "name", "items", "row"]
theorem scAll : FnScope NAll ["self"] (defScope sAll) := ⟨rfl, rfl, rfl, by decide +kernel, rfl, by decide +kernel, by decide +kernel⟩
theorem pa_star_K {X : Cx} {K : PySem.W.Frag} (h : X.K = K) {e : Expr} {p : Pos} {es : List Expr} {te : TE} {t : TA} (he : PE X e te) (hr : PA X es t) : PA X (.Starred e p :: es) (StX.tStar K te t) := by
  subst h
  exact StX.pa_star he hr
theorem key_some {β : Type} {l : List (Str × β)} {ys : List Str} {n : Str} {i : Nat} (p : ys.Perm (l.map (·.1))) (e : ys[i]? = some n) : ∃ b, valG l n = some b := by
  have h := valG_key.mp (p.mem_iff.mp (List.mem_of_getElem? e))
  cases z : valG l n with
  | none => rw [z] at h; cases h
  | some b => exact ⟨b, rfl⟩
theorem dgetL {H : Hp} {d : Addr} {L : List (Str × V)} {n : Str} {v : V} (h : Rd H d (.dK (kvG id L))) (e : valG L n = some v) : DGet H d (.str n) (some v) := by
  refine .inl ⟨kvG id L, Sum.inr n, h, rfl, ?_⟩
  rw [kvG_val, e]
  rfl
theorem cOf_eq {R : Tb} {n : Str} {q : Addr} {c : List V} (e : valG R n = some (q, c)) : cOf R n = c := by unfold cOf; rw [e]
theorem rOf_eq {F : Fb} {n : Str} {q : Addr} {c : List (Addr × List V)} (e : valG F n = some (q, c)) : rOf F n = c := by unfold rOf; rw [e]
theorem lOf_eq {L : List (Str × V)} {n : Str} {v : V} (e : valG L n = some v) : lOf L n = v := by unfold lOf; rw [e]
theorem kvL_keys (L : List (Str × V)) : (kvG id L).map (·.1) = (L.map (·.1)).map Sum.inr := by
  unfold kvG
  rw [List.map_map, List.map_map]
  rfl
theorem kvF_keys (F : Fb) : (kvF F).map (·.1) = (F.map (·.1)).map Sum.inr := by
  unfold kvF kvG
  rw [List.map_map, List.map_map]
  rfl
theorem te_app (its jts : Its) : (its ++ jts).map te = its.map te ++ jts.map te := List.map_append
section
variable {P : Program} {w : World} {K : PySem.W.Frag} {mg : Str → Option Value} {base : Heap} {C : Addr}
theorem ok_all {f : Addr} {fd : FuncData} (F0 : Fun K "all_items" "State.all_items" sAll f fd) (T : Bl mg) (X : Txt K mg C) :
    FnOk P w K mg base CX0 1 f fd ["self"] (spAll K C) := by
  refine F0.ok scAll (fun vs H Q E h => ?_) (fun cdv A outer s H vs Q E hr h => ?_)
  · obtain ⟨x, dr, df, ds, dl, Z, R, S, F, L, b, rfl, _⟩ := h
    rfl
  · obtain ⟨x, dr, df, ds, dl, Z, R, S, F, L, b, rfl, st, hb, tg, lR, lF, lS, lL, q⟩ := h
    have hu := hu_of hr
    refine ⟨_, (pss_cons (ps_setLc (i := 2) (own := [("name", 1)]) (g := gName 1) rfl scAll.nd rfl rfl (sw_true rfl rfl rfl (by decide +kernel)) (pi_list (pe_callB (call_sortedD rfl) (by rfl) T.sorted (by decide +kernel) (pa_cons (pe_fld (pv 0) rfl) pa_nil))) (blkOk_by (own := [("name", 1)]) (N := NAll) (sc := defScope sAll) (by decide +kernel)) (fun _ _ _ _ _ => pg_name (i := 1) scAll.nd rfl (Or.inl rfl)) (fun _ _ _ _ _ => pts_nil)
        (fun _ _ _ _ _ => (pe_tup (pa_cons pe_str (pa_cons (pv 1) (pa_star_K (K := K) rfl (pe_dget hu (pe_fld_K (K := K) rfl (pv 0) rfl) (pv 1) (fun _ _ => rfl)) pa_nil))))))
      (pss_cons (ps_for PassesOwn.never rfl (pi_list (pe_callB (call_sortedD rfl) (by rfl) T.sorted (by decide +kernel) (pa_cons (pe_fld (pv 0) rfl) pa_nil))) (pg_name (i := 1) scAll.nd rfl (.inr rfl)) (pss_one (ps_expr (pe_bm PySem.F.plainAttrs_list PySem.F.slot_list_extend PySem.F.type_list_extend mt_extend (pv 2) (pa_cons (pe_lc (own := [("row", 3)]) (g := gName 3) rfl scAll.nd (pi_list (pe_dget hu (pe_fld (pv 0) rfl) (pv 1) (fun _ _ => rfl))) (blkOk_by (own := [("row", 3)]) (N := NAll) (sc := defScope sAll) (by decide +kernel)) (fun _ _ _ _ _ => pg_name (i := 3) scAll.nd rfl (Or.inl rfl)) (fun _ _ _ _ _ => pts_nil) (fun _ _ _ _ _ => (pe_tup (pa_cons pe_str (pa_cons (pv 1) (pa_cons (pv 3) pa_nil)))))) pa_nil)))))
      (pss_cons (ps_for PassesOwn.never rfl (pi_list (pe_callB (call_sortedD rfl) (by rfl) T.sorted (by decide +kernel) (pa_cons (pe_fld (pv 0) rfl) pa_nil))) (pg_name (i := 1) scAll.nd rfl (.inr rfl)) (pss_one (ps_expr (pe_bm PySem.F.plainAttrs_list PySem.F.slot_list_append PySem.F.type_list_append mt_append (pv 2) (pa_cons (pe_tup (pa_cons pe_str (pa_cons (pv 1) (StX.pa_star (pe_dget hu (pe_fld (pv 0) rfl) (pv 1) (fun _ _ => rfl)) pa_nil)))) pa_nil)))))
      (pss_cons (ps_for PassesOwn.never rfl (pi_list (pe_callB (call_sortedD rfl) (by rfl) T.sorted (by decide +kernel) (pa_cons (pe_fld (pv 0) rfl) pa_nil))) (pg_name (i := 1) scAll.nd rfl (.inr rfl)) (pss_one (ps_expr (pe_bm PySem.F.plainAttrs_list PySem.F.slot_list_append PySem.F.type_list_append mt_append (pv 2) (pa_cons (pe_tup (pa_cons pe_str (pa_cons (pv 1) (pa_cons (pe_dget hu (pe_fld (pv 0) rfl) (pv 1) (fun _ _ => rfl)) pa_nil)))) pa_nil)))))
      (pss_one (ps_ret (pv 2))))))), ?_⟩
    obtain ⟨dx, ob⟩ := st.ob
    -- the relations
    refine ⟨_, rfl, x, C, dx, _, _, rfl, ob, X.cl, X.nR, flds_r _ _ _ _, dr, kvR R, R.map (·.1), rfl, .inl st.r, kvR_keys R, by rw [List.length_map]; exact lR, fun ys yp py sy nyp => ?_⟩
    have s1 := Same.new (o := .lst (ys.map V.str)) nyp
    have e1 := upd_same (H := H) (a := yp) (o := .lst (ys.map V.str))
    generalize (upd H yp (.lst (ys.map V.str))) = H1 at *
    have lys : ys.length < 64 := by rw [py.length_eq, List.length_map]; exact lR
    refine ⟨yp, rfl, ⟨_, SqL.of e1⟩, fun D nD => lc_list (K := K) (a := yp) (xs := ys.map V.str) (fun i H4 => ∃ its : Its, Same H1 H4 ∧ H4 D = some (.lst (irf its)) ∧ ItsG K H4 its ∧ its.length = i ∧ its.map te = (ys.take i).map fun n => ier (.rel n (cOf R n)))
      ⟨[], Same.new nD, upd_same, (fun _ m => nomatch m), rfl, rfl⟩ (fun i H4 _ hP => ?_) (fun i y H4 hy hP => ?_) (fun H4 hP => ?_)⟩
    · obtain ⟨_, s4, _⟩ := hP
      exact SqL.of (s4 _ _ e1)
    · obtain ⟨its, s4, eD, io, li, er⟩ := hP
      obtain ⟨n, en, rfl⟩ := strs_get hy
      have il : i < ys.length := (List.getElem?_eq_some_iff.mp en).1
      obtain ⟨⟨qa, c⟩, ec⟩ := key_some py en
      obtain ⟨pn, lc, cd⟩ := tg.r n qa c ec
      have s04 := s1.trans s4
      have st4 := st.same s04
      refine ⟨rfl, ?_⟩
      refine ⟨_, rfl, _, rfl, x, C, dx, _, _, rfl, s04 _ _ ob, X.cl, X.nR, flds_r _ _ _ _, _, rfl, dr, _, rfl, dget_n (.inl st4.r) ec, qa, c, rfl, .inl (st4.rt _ (valG_mem ec)), ?_, fun u nu => ?_⟩
      · show (V.str _ :: V.str n :: (c ++ [])).length ≤ sizeLine
        rw [List.append_nil, List.length_cons, List.length_cons, lc]
        exact sz 4
      have s6 := Same.new (o := .tup (V.str "relation" :: V.str n :: (c ++ []))) nu
      have e6 := upd_same (H := H4) (a := u) (o := .tup (V.str "relation" :: V.str n :: (c ++ [])))
      rw [List.append_nil] at s6 e6
      have eu : (upd H4 u (.tup (V.str "relation" :: V.str n :: (c ++ [])))) = (upd H4 u (.tup (V.str "relation" :: V.str n :: c))) := by rw [List.append_nil]
      refine eu ▸ ?_
      generalize (upd H4 u (.tup (V.str "relation" :: V.str n :: c))) = H6 at *
      have eD6 := s6 _ _ eD
      have tD : Tk K H6 (upd H6 D (.lst (irf its ++ [.ref u]))) := Tk.put eD6
      refine ⟨irf its, eD6, by rw [irf_len]; exact small (m := 1000) (by omega) (by decide), its ++ [(u, .rel n c)], Same.over (s4.trans s6) nD, by rw [upd_same, irf_app]; rfl, ((io.same s6).tk tD).app (ItsG.one (t := (u, It.rel n c)) ⟨tD _ _ (SqT.of e6), pn, (cd.same (s04.trans s6)).tk tD, lc⟩), by rw [List.length_append, li]; rfl, ?_⟩
      rw [te_app, take_snoc' en, List.map_append, ← er]
      show _ = _ ++ [ier (.rel n (cOf R n))]
      rw [cOf_eq ec]
      rfl
    obtain ⟨its, s4, eD, io, li, er⟩ := hP
    rw [List.length_map] at li
    rw [List.length_map, List.take_length] at er
    have s04 := s1.trans s4
    have nDH : H D = none := s1.free nD
    clear e1 s1 nyp s4
    have st4 := st.same s04
    -- the facts
    refine ⟨_, rfl, x, C, dx, _, _, rfl, s04 _ _ ob, X.cl, X.nF, flds_f _ _ _ _, df, kvF F, F.map (·.1), rfl, .inl st4.f, kvF_keys F, by rw [List.length_map]; exact lF, fun fs fp pf sf nfp => ?_⟩
    have s5 := s04.trans (Same.new (o := .lst (fs.map V.str)) nfp)
    have e5 := upd_same (H := H4) (a := fp) (o := .lst (fs.map V.str))
    have eD5 := (Same.new (o := .lst (fs.map V.str)) nfp) _ _ eD
    have io5 := io.same (K := K) (Same.new (o := .lst (fs.map V.str)) nfp)
    have nfD : fp ≠ D := fun z => by rw [z, eD] at nfp; cases nfp
    generalize (upd H4 fp (.lst (fs.map V.str))) = H5 at *
    have lfs : fs.length < 64 := by rw [pf.length_eq, List.length_map]; exact lF
    refine ⟨fp, rfl, ⟨_, SqL.of e5⟩, for_list (K := K) (a := fp) (xs := fs.map V.str) (fun i σ H7 => ∃ (y1 : Option V) (its : Its), σ = [some (.ref x), y1, some (.ref D), none] ∧ Same H H7 ∧ H7 fp = some (.lst (fs.map V.str)) ∧ H7 D = some (.lst (irf its)) ∧ ItsG K H7 its ∧ its.length ≤ 64 + 300 * i ∧
        its.map te = ys.map (fun n => ier (.rel n (cOf R n))) ++ (fs.take i).flatMap fun n => (rOf F n).map fun t => ier (.fact n t.1 t.2))
      ⟨none, its, rfl, s5, e5, eD5, io5, by omega, by rw [List.take_zero, List.flatMap_nil, List.append_nil]; exact er⟩ (fun i σ H7 _ hP => ?_) (fun i y σ H7 hy hP => ?_) (fun σ H7 hP => ?_)⟩
    · obtain ⟨_, _, _, _, h, _⟩ := hP
      exact SqL.of h
    · obtain ⟨y1, its, rfl, s7, ef7, eD, io, li, er⟩ := hP
      obtain ⟨n, en, rfl⟩ := strs_get hy
      have il : i < fs.length := (List.getElem?_eq_some_iff.mp en).1
      obtain ⟨⟨qa, rs⟩, ec⟩ := key_some pf en
      have pn := tg.f n (by rw [ec]; rfl)
      have st7 := st.same s7
      obtain ⟨hqa, ro, lrs⟩ := st7.ft _ (valG_mem ec)
      have hqa' : H7 qa = some (.lst (rrefs rs)) := hqa
      have ro' : RowsOk K H7 rs := ro
      have lrs' : rs.length ≤ b := lrs
      refine ⟨_, rfl, .inl ⟨rfl, _, SqL.of eD⟩, _, rfl, x, C, dx, _, _, rfl, s7 _ _ ob, X.cl, X.nF, flds_f _ _ _ _, _, rfl, df, _, rfl, dgetF (.inl st7.f) ec, qa, rfl, ⟨_, SqL.of hqa'⟩, fun E2 nE => lc_list (K := K) (a := qa) (xs := rrefs rs) (fun j H8 => ∃ jts : Its, Same H7 H8 ∧ H8 E2 = some (.lst (irf jts)) ∧ ItsG K H8 jts ∧ jts.length = j ∧ jts.map te = (rs.take j).map fun t => ier (.fact n t.1 t.2))
        ⟨[], Same.new nE, upd_same, (fun _ m => nomatch m), rfl, rfl⟩ (fun j H8 _ hP => ?_) (fun j y H8 hy hP => ?_) (fun H8 hP => ?_)⟩
      · obtain ⟨_, s8, _⟩ := hP
        exact SqL.of (s8 _ _ hqa')
      · obtain ⟨jts, s8, eE, jo, lj, jr⟩ := hP
        obtain ⟨t, et, rfl⟩ := rrefs_get hy
        obtain ⟨ht, st', lt⟩ := (ro'.same s8) t (List.mem_of_getElem? et)
        have jl : j < rs.length := (List.getElem?_eq_some_iff.mp et).1
        refine ⟨rfl, ?_⟩
        refine ⟨_, rfl, _, rfl, sz 3, fun u nu => ?_⟩
        have s9 := Same.new (o := .tup [V.str "fact", .str n, .ref t.1]) nu
        have e9 := upd_same (H := H8) (a := u) (o := .tup [V.str "fact", .str n, .ref t.1])
        generalize (upd H8 u (.tup [V.str "fact", .str n, .ref t.1])) = H9 at *
        have eE9 := s9 _ _ eE
        have tE : Tk K H9 (upd H9 E2 (.lst (irf jts ++ [.ref u]))) := Tk.put eE9
        refine ⟨irf jts, eE9, by rw [irf_len]; exact small (m := 1000) (by omega) (by decide), jts ++ [(u, .fact n t.1 t.2)], Same.over (s8.trans s9) nE, by rw [upd_same, irf_app]; rfl, ((jo.same s9).tk tE).app (ItsG.one (t := (u, It.fact n t.1 t.2)) ⟨⟨tE _ _ (SqT.of e9), tE _ _ (Tk.same s9 _ _ ht), st', lt⟩, pn, CD.nil, rfl⟩), by rw [List.length_append, lj]; rfl, ?_⟩
        rw [te_app, take_snoc' et, List.map_append, ← jr]
        rfl
      · obtain ⟨jts, s8, eE, jo, lj, jr⟩ := hP
        rw [rrefs_len] at lj
        rw [rrefs_len, List.take_length] at jr
        have eD8 := s8 _ _ eD
        have nDE : E2 ≠ D := fun z => by rw [z, eD] at nE; cases nE
        refine ⟨D, E2, irf its, irf jts, rfl, rfl, eD8, eE, ?_, ?_⟩
        · rw [irf_len, irf_len]
          exact Nat.le_trans (show its.length + jts.length ≤ 30000 by omega) (by decide)
        · have tD : Tk K H8 (upd H8 D (.lst (irf its ++ irf jts))) := Tk.put eD8
          refine ⟨_, its ++ jts, rfl, Same.over (s7.trans s8) nDH, by rw [upd_ne nfD]; exact s8 _ _ ef7, by rw [upd_same, irf_app], ((io.same s8).tk tD).app (jo.tk tD), by rw [List.length_append]; omega, ?_⟩
          rw [te_app, take_snoc' en, List.flatMap_append, er, jr, List.append_assoc]
          show _ = _ ++ (_ ++ List.flatMap _ [n])
          rw [List.flatMap_cons, List.flatMap_nil, List.append_nil, rOf_eq ec]
    obtain ⟨y1, its, rfl, s7, _, eD, io, li, er⟩ := hP
    rw [List.length_map] at li
    rw [List.length_map, List.take_length] at er
    clear s5 e5 eD5 io5 nfp nfD st4 s04
    have st7 := st.same s7
    -- the structures
    refine ⟨_, rfl, x, C, dx, _, _, rfl, s7 _ _ ob, X.cl, X.nS, flds_s _ _ _ _, ds, kvR S, S.map (·.1), rfl, .inl st7.s, kvR_keys S, by rw [List.length_map]; exact lS, fun ss sp ps ss' nsp => ?_⟩
    have s8 := s7.trans (Same.new (o := .lst (ss.map V.str)) nsp)
    have e8 := upd_same (H := H7) (a := sp) (o := .lst (ss.map V.str))
    have eD8 := (Same.new (o := .lst (ss.map V.str)) nsp) _ _ eD
    have io8 := io.same (K := K) (Same.new (o := .lst (ss.map V.str)) nsp)
    have nsD : sp ≠ D := fun z => by rw [z, eD] at nsp; cases nsp
    generalize (upd H7 sp (.lst (ss.map V.str))) = H8 at *
    have lss : ss.length < 64 := by rw [ps.length_eq, List.length_map]; exact lS
    refine ⟨sp, rfl, ⟨_, SqL.of e8⟩, for_list (K := K) (a := sp) (xs := ss.map V.str) (fun i σ H9 => ∃ (y1 : Option V) (its : Its), σ = [some (.ref x), y1, some (.ref D), none] ∧ Same H H9 ∧ H9 sp = some (.lst (ss.map V.str)) ∧ H9 D = some (.lst (irf its)) ∧ ItsG K H9 its ∧ its.length ≤ 20000 + i ∧
        its.map te = ys.map (fun n => ier (.rel n (cOf R n))) ++ (fs.flatMap fun n => (rOf F n).map fun t => ier (.fact n t.1 t.2)) ++ (ss.take i).map fun n => ier (.str n (cOf S n)))
      ⟨_, its, rfl, s8, e8, eD8, io8, by omega, by rw [List.take_zero, List.map_nil, List.append_nil]; exact er⟩ (fun i σ H9 _ hP => ?_) (fun i y σ H9 hy hP => ?_) (fun σ H9 hP => ?_)⟩
    · obtain ⟨_, _, _, _, h, _⟩ := hP
      exact SqL.of h
    · obtain ⟨y1, its, rfl, s9, es9, eD, io, li, er⟩ := hP
      obtain ⟨n, en, rfl⟩ := strs_get hy
      have il : i < ss.length := (List.getElem?_eq_some_iff.mp en).1
      obtain ⟨⟨qa, c⟩, ec⟩ := key_some ps en
      obtain ⟨pn, lc, cd⟩ := tg.s n qa c ec
      have st9 := st.same s9
      refine ⟨_, rfl, .inl ⟨rfl, _, SqL.of eD⟩, _, rfl, _, rfl, x, C, dx, _, _, rfl, s9 _ _ ob, X.cl, X.nS, flds_s _ _ _ _, _, rfl, ds, _, rfl, dget_n (.inl st9.s) ec, qa, c, rfl, .inl (st9.st _ (valG_mem ec)), ?_, fun u nu => ?_⟩
      · show (V.str _ :: V.str n :: (c ++ [])).length ≤ sizeLine
        rw [List.append_nil, List.length_cons, List.length_cons, lc]
        exact sz 6
      have eu : (upd H9 u (.tup (V.str "structure" :: V.str n :: (c ++ [])))) = (upd H9 u (.tup (V.str "structure" :: V.str n :: c))) := by rw [List.append_nil]
      refine eu ▸ ?_
      have s6 := Same.new (o := .tup (V.str "structure" :: V.str n :: c)) nu
      have e6 := upd_same (H := H9) (a := u) (o := .tup (V.str "structure" :: V.str n :: c))
      generalize (upd H9 u (.tup (V.str "structure" :: V.str n :: c))) = H6 at *
      have eD6 := s6 _ _ eD
      have tD : Tk K H6 (upd H6 D (.lst (irf its ++ [.ref u]))) := Tk.put eD6
      refine ⟨D, irf its, _, rfl, rfl, eD6, by rw [irf_len]; exact Nat.lt_of_le_of_lt (show its.length ≤ 30000 by omega) (by decide), ?_⟩
      refine ⟨_, its ++ [(u, .str n c)], rfl, Same.over (s9.trans s6) nDH, by rw [upd_ne nsD]; exact s6 _ _ es9, by rw [upd_same, irf_app]; rfl, ((io.same s6).tk tD).app (ItsG.one (t := (u, It.str n c)) ⟨tD _ _ (SqT.of e6), pn, (cd.same (s9.trans s6)).tk tD, lc⟩), by rw [List.length_append]; show _ + 1 ≤ _; omega, ?_⟩
      rw [te_app, take_snoc' en, List.map_append, er, List.append_assoc]
      show _ = _ ++ (_ ++ [ier (.str n (cOf S n))])
      rw [cOf_eq ec]
      rfl
    obtain ⟨y1, its, rfl, s9, _, eD, io, li, er⟩ := hP
    rw [List.length_map] at li
    rw [List.length_map, List.take_length] at er
    clear s8 e8 eD8 io8 nsp nsD st7 s7
    have st9 := st.same s9
    -- the layouts
    refine ⟨_, rfl, x, C, dx, _, _, rfl, s9 _ _ ob, X.cl, X.nL, flds_l _ _ _ _, dl, kvG id L, L.map (·.1), rfl, .inl st9.l, kvL_keys L, by rw [List.length_map]; exact lL, fun ls lp pl sl nlp => ?_⟩
    have s10 := s9.trans (Same.new (o := .lst (ls.map V.str)) nlp)
    have e10 := upd_same (H := H9) (a := lp) (o := .lst (ls.map V.str))
    have eD10 := (Same.new (o := .lst (ls.map V.str)) nlp) _ _ eD
    have io10 := io.same (K := K) (Same.new (o := .lst (ls.map V.str)) nlp)
    have nlD : lp ≠ D := fun z => by rw [z, eD] at nlp; cases nlp
    generalize (upd H9 lp (.lst (ls.map V.str))) = H10 at *
    have lls : ls.length < 64 := by rw [pl.length_eq, List.length_map]; exact lL
    refine ⟨lp, rfl, ⟨_, SqL.of e10⟩, for_list (K := K) (a := lp) (xs := ls.map V.str) (fun i σ H11 => ∃ (y1 : Option V) (its : Its), σ = [some (.ref x), y1, some (.ref D), none] ∧ Same H H11 ∧ H11 lp = some (.lst (ls.map V.str)) ∧ H11 D = some (.lst (irf its)) ∧ ItsG K H11 its ∧ its.length ≤ 25000 + i ∧
        its.map te = ys.map (fun n => ier (.rel n (cOf R n))) ++ (fs.flatMap fun n => (rOf F n).map fun t => ier (.fact n t.1 t.2)) ++ ss.map (fun n => ier (.str n (cOf S n))) ++ (ls.take i).map fun n => ier (.lay n (lOf L n)))
      ⟨_, its, rfl, s10, e10, eD10, io10, by omega, by rw [List.take_zero, List.map_nil, List.append_nil]; exact er⟩ (fun i σ H11 _ hP => ?_) (fun i y σ H11 hy hP => ?_) (fun σ H11 hP => ?_)⟩
    · obtain ⟨_, _, _, _, h, _⟩ := hP
      exact SqL.of h
    · obtain ⟨y1, its, rfl, s11, es11, eD, io, li, er⟩ := hP
      obtain ⟨n, en, rfl⟩ := strs_get hy
      have il : i < ls.length := (List.getElem?_eq_some_iff.mp en).1
      obtain ⟨v, ec⟩ := key_some pl en
      obtain ⟨pn, cd⟩ := tg.l n v ec
      have st11 := st.same s11
      refine ⟨_, rfl, .inl ⟨rfl, _, SqL.of eD⟩, _, rfl, _, rfl, x, C, dx, _, _, rfl, s11 _ _ ob, X.cl, X.nL, flds_l _ _ _ _, _, rfl, dl, _, rfl, dgetL (.inl st11.l) ec, sz 3, fun u nu => ?_⟩
      have s6 := Same.new (o := .tup [V.str "layout", V.str n, v]) nu
      have e6 := upd_same (H := H11) (a := u) (o := .tup [V.str "layout", V.str n, v])
      generalize (upd H11 u (.tup [V.str "layout", V.str n, v])) = H6 at *
      have eD6 := s6 _ _ eD
      have tD : Tk K H6 (upd H6 D (.lst (irf its ++ [.ref u]))) := Tk.put eD6
      refine ⟨D, irf its, _, rfl, rfl, eD6, by rw [irf_len]; exact Nat.lt_of_le_of_lt (show its.length ≤ 30000 by omega) (by decide), ?_⟩
      refine ⟨_, its ++ [(u, .lay n v)], rfl, Same.over (s11.trans s6) nDH, by rw [upd_ne nlD]; exact s6 _ _ es11, by rw [upd_same, irf_app]; rfl, ((io.same s6).tk tD).app (ItsG.one (t := (u, It.lay n v)) ⟨tD _ _ (SqT.of e6), pn, (cd.same (s11.trans s6)).tk tD, rfl⟩), by rw [List.length_append]; show _ + 1 ≤ _; omega, ?_⟩
      rw [te_app, take_snoc' en, List.map_append, er, List.append_assoc]
      show _ = _ ++ (_ ++ [ier (.lay n (lOf L n))])
      rw [lOf_eq ec]
      rfl
    · obtain ⟨y1, its, rfl, s11, _, eD, io, li, er⟩ := hP
      rw [List.length_map, List.take_length] at er
      exact ⟨_, rfl, q its D ys fs ss ls _ py sy pf sf ps ss' pl sl er s11 nDH eD io⟩
end
end K1
namespace K1
open PySem PySem.Spec PyProof.Rows L2 Ow Tlz
structure Sta (P : Program) (w : World) (K : PySem.W.Frag) (mg : Str → Option Value) (base : Heap) (C : Addr) : Prop where
  ex : ∃ (f : Addr) (fd : FuncData) (a0 : Addr) (ds : List Value), Mk K C f ∧ FnOk P w K mg base CX0 6 f fd ["self", "items"] (spInit K C) ∧ FnOk P w K mg base CX0 6 f fd ["self", "items"] (spInit0 K C) ∧
    Binds K fd ["self", "items"] [] ∧ Binds K fd ["self", "items"] ds ∧ Vals [V.ref a0] ds ∧ ∀ H : Hp, SqT K H a0 []
theorem same_make {H : Hp} {x dx C : Addr} (hx : H x = none) (hd : H dx = none) : Same H (upd (upd H dx (.own x)) x (.ins C dx [])) := fun b o e => by
  rw [upd_ne (ne_of_none e hx), upd_ne (ne_of_none e hd)]
  exact e
theorem same_made {H H' : Hp} {x dx C : Addr} (hx : H x = none) (hd : H dx = none) (g : Gw x (upd (upd H dx (.own x)) x (.ins C dx [])) H') : Same H H' := fun b o e =>
  g b o (ne_of_none e hx) (same_make hx hd b o e)
abbrev sHas : Stmt := inClass sState 2
abbrev NHas : List Str := ["self", "relation", "row", "rows", "at"]
theorem scHas : FnScope NHas ["self", "relation", "row"] (defScope sHas) := ⟨rfl, rfl, rfl, by decide +kernel, rfl, by decide +kernel, by decide +kernel⟩
def HasRow (F : Fb) (n : Str) (row : List V) : Prop := ∃ q rs, valG F n = some (q, rs) ∧ ∃ r, (r, row) ∈ rs
def spHas (K : PySem.W.Frag) (C : Addr) : Sp := fun vs H Q _ => ∃ (x r : Addr) (n : Str) (row : List V) (dr df ds dl : Addr) (Z : Addr → Prop) (R S : Tb) (F : Fb) (L : List (Str × V)) (b : Nat), vs = [.ref x, .str n, .ref r] ∧
  StAt K C Z H x dr df ds dl R F S L b ∧ b ≤ 900 ∧ SqT K H r row ∧ (∀ v ∈ row, Scal v) ∧ row.length ≤ 10 ∧ (∀ m q rs, valG F m = some (q, rs) → SrtS rs) ∧
  ∀ k H', (k = true ↔ HasRow F n row) → Same H H' → Q (.bl k) H'
theorem place_has {rs : List (Addr × List V)} {row : List V} {k : Nat} (h : SrtS rs) (sr : ∀ x ∈ row, Scal x) (pl : Place rs row k) : (∃ t, rs[k]? = some t ∧ t.2 = row) ↔ ∃ r, (r, row) ∈ rs := by
  constructor
  · rintro ⟨t, e, er⟩
    refine ⟨t.1, ?_⟩
    rw [← er]
    exact List.mem_of_getElem? e
  · rintro ⟨r, m⟩
    obtain ⟨j, e⟩ := List.mem_iff_getElem?.mp m
    rcases Nat.lt_trichotomy j k with c | c | c
    · exact (rlt_irr sr (pl.1 j _ c e)).elim
    · exact ⟨_, by rw [← c]; exact e, rfl⟩
    · have lk : k < rs.length := by have := (List.getElem?_eq_some_iff.mp e).1; omega
      have ek : rs[k]? = some rs[k] := List.getElem?_eq_getElem lk
      exact absurd (srt_lt h.1 ek e c) (pl.2 k _ (Nat.le_refl _) ek)
abbrev NCopy : List Str := ["self", "made", "name"]
def erF (F : Fb) : List (Str × List (Addr × List V)) := F.map fun x => (x.1, x.2.2)
def spCopy (K : PySem.W.Frag) (C : Addr) : Sp := fun vs H Q _ => ∃ (x dr df ds dl : Addr) (Z : Addr → Prop) (R S : Tb) (F : Fb) (L : List (Str × V)) (b : Nat), vs = [.ref x] ∧ StAt K C Z H x dr df ds dl R F S L b ∧ b ≤ 300 ∧
  ∀ (x' dr' df' ds' dl' : Addr) (F' : Fb) H', Same H H' → H x' = none → erF F' = erF F → StAt K C (fun a => H a = none ∧ a ≠ x') H' x' dr' df' ds' dl' R F' S L 300 → Q (.ref x') H'
theorem n_rf : ¬ (PySem.Str.ofString "relations" = PySem.Str.ofString "facts") := by decide +kernel
theorem n_rs : ¬ (PySem.Str.ofString "relations" = PySem.Str.ofString "structures") := by decide +kernel
theorem n_rl : ¬ (PySem.Str.ofString "relations" = PySem.Str.ofString "layouts") := by decide +kernel
theorem n_fs : ¬ (PySem.Str.ofString "facts" = PySem.Str.ofString "structures") := by decide +kernel
theorem n_fl : ¬ (PySem.Str.ofString "facts" = PySem.Str.ofString "layouts") := by decide +kernel
theorem n_sl : ¬ (PySem.Str.ofString "structures" = PySem.Str.ofString "layouts") := by decide +kernel
theorem flds_eq (a b c d : V) : flds a b c d = ([(PySem.Str.ofString "relations", a), (PySem.Str.ofString "facts", b), (PySem.Str.ofString "structures", c), (PySem.Str.ofString "layouts", d)] : List (Str × V)) := by
  simp only [flds, putF, if_neg n_rf, if_neg n_rs, if_neg n_rl, if_neg n_fs, if_neg n_fl, if_neg n_sl]
theorem flds_putR (v a b c d : V) : putF "relations" v (flds a b c d) = flds v b c d := by
  rw [flds_eq, flds_eq]
  simp only [putF, if_true]
theorem flds_putF (v a b c d : V) : putF "facts" v (flds a b c d) = flds a v c d := by
  rw [flds_eq, flds_eq]
  simp only [putF, if_true, if_neg n_rf]
theorem flds_putS (v a b c d : V) : putF "structures" v (flds a b c d) = flds a b v d := by
  rw [flds_eq, flds_eq]
  simp only [putF, if_true, if_neg n_rs, if_neg n_fs]
theorem flds_putL (v a b c d : V) : putF "layouts" v (flds a b c d) = flds a b c v := by
  rw [flds_eq, flds_eq]
  simp only [putF, if_true, if_neg n_rl, if_neg n_fl, if_neg n_sl]
theorem flds_few (a b c d : V) : (flds a b c d).length < 1000 := by
  have a1 := putF_len "layouts" d (putF "structures" c (putF "facts" b (putF "relations" a [])))
  have a2 := putF_len "structures" c (putF "facts" b (putF "relations" a []))
  have a3 := putF_len "facts" b (putF "relations" a [])
  have a4 := putF_len "relations" a []
  have a5 : ([] : List (Str × V)).length = 0 := rfl
  show (putF "layouts" d (putF "structures" c (putF "facts" b (putF "relations" a [])))).length < 1000
  omega
theorem call_list_K {X : Cx} {K : PySem.W.Frag} (e : X.K = K) : CallR X (.type "list") (fun xs H Q => ∃ p ys, xs = [.ref p] ∧ (SqL K H p ys ∨ SqT K H p ys) ∧ ∀ l, H l = none → Q (.ref l) (upd H l (.lst ys))) := by
  subst e
  exact call_list_of
theorem dc_it {J : L2.It} {n : Nat} {G : Hp → Prop} {Y : Nat → Hp → V → Hp → Prop} (w : Walk J n G Y) {g : TG} {tt : TT} {tk tv : TE} {vs : List Nat} {σ : L2.St} {H1 : Hp} {D : Addr} {Qd : Hp → Prop} (Pv : Nat → Hp → Prop) (h0 : Pv 0 (upd H1 D (.dK []))) (hG : ∀ i H, i ≤ n → Pv i H → G H)
    (hs : ∀ i x H H', i < n → Pv i H → Y i H x H' → g x (wipe σ vs) H' fun σ2 H2 => wipe σ2 vs = wipe σ vs ∧ tt σ2 H2 fun b H3 =>
      if b = true then tk σ2 H3 fun y H4 => tv σ2 H4 fun z H5 => ∃ kvs k, y = kV k ∧ H5 D = some (.dK kvs) ∧ kvs.length < sizeLine ∧ Pv (i + 1) (upd H5 D (.dK (putK kvs k z))) else Pv (i + 1) H3) (hd : ∀ H, Pv n H → Qd H) :
    ∃ W : Nat → Nat → Hp → Prop, (∃ m, W 0 m (upd H1 D (.dK []))) ∧ ∀ i m H, W i m H →
      (J.stop i H ∧ Qd H) ∨ (J.go i H ∧ ∃ Nx : Hp → Prop, (∀ H', Nx H' → ∃ m', m' < m ∧ W (i + 1) m' H') ∧ ∀ x H', J.yld i H x H' → g x (wipe σ vs) H' fun σ2 H2 => wipe σ2 vs = wipe σ vs ∧ tt σ2 H2 fun b H3 =>
        if b = true then tk σ2 H3 fun y H4 => tv σ2 H4 fun z H5 => ∃ kvs k, y = kV k ∧ H5 D = some (.dK kvs) ∧ kvs.length < sizeLine ∧ Nx (upd H5 D (.dK (putK kvs k z))) else Nx H3) := by
  refine ⟨fun i m H => m = n - i ∧ i ≤ n ∧ Pv i H, ⟨n, by simp, Nat.zero_le _, h0⟩, ?_⟩
  rintro i m H ⟨rfl, hi, p⟩
  have q := hG i H hi p
  by_cases hlt : i < n
  · refine .inr ⟨w.goes i H hlt q, Pv (i + 1), fun H' p' => ⟨n - (i + 1), by omega, rfl, hlt, p'⟩, fun x H' y => hs i x H H' hlt p (w.yields i H x H' hlt q y)⟩
  · have e : i = n := by omega
    subst e
    exact .inl ⟨w.stops H q, hd H p⟩
theorem kvF_at {F : Fb} {i : Nat} {k : Key} {v : V} (h : (kvF F)[i]? = some (k, v)) : ∃ e, F[i]? = some e ∧ k = Sum.inr e.1 ∧ v = .ref e.2.1 := by
  unfold kvF kvG at h
  rw [List.getElem?_map] at h
  cases e : F[i]? with
  | none => rw [e] at h; cases h
  | some t =>
    rw [e] at h
    have z := Option.some.inj h
    exact ⟨t, rfl, (congrArg Prod.fst z).symm, (congrArg Prod.snd z).symm⟩
section
variable {P : Program} {w : World} {K : PySem.W.Frag} {mg : Str → Option Value} {base : Heap} {C : Addr}
theorem ok_has {f : Addr} {fd : FuncData} (F0 : Fun K "has" "State.has" sHas f fd) (X : Txt K mg C)
    (Dplace_of : Kn P w K mg base 3 "place_of" ["rows", "row"] (spPlace K)) :
    FnOk P w K mg base CX0 4 f fd ["self", "relation", "row"] (spHas K C) := by
  refine F0.ok scHas (fun vs H Q E h => ?_) (fun cdv A outer s H vs Q E hr h => ?_)
  · obtain ⟨x, r, n, row, dr, df, ds, dl, Z, R, S, F, L, b, rfl, _⟩ := h
    rfl
  · obtain ⟨x, r, n, row, dr, df, ds, dl, Z, R, S, F, L, b, rfl, st, lb, hrow, srow, lrow, srt, q⟩ := h
    have hu := hu_of hr
    refine ⟨_, (pss_mid (ps_set (i := 3) scHas.nd rfl (.inl rfl) (pe_dget2 hu (pe_fld (pv 0) rfl) (pv 1) (pe_lst pa_nil) ⟨rfl, rfl, rfl, rfl⟩))
      (pss_cons (ps_set (i := 4) scHas.nd rfl (.inl rfl) (pe_kn Dplace_of hr (pa_cons (pv 3) (pa_cons (pv 2) pa_nil))))
      (pss_one (ps_ret (pe_cmpR (op_eqD (hu64 hr)) (pe_slice sl_list (pv 3) (po_some (pv 4)) (po_some (pe_op op_add (pv 4) pe_int))) (pe_lst (pa_cons (pv 2) pa_nil)) (nomark _)))))), ?_⟩
    refine ⟨fun σ H1 => ∃ (l : Addr) (rs : List (Addr × List V)), σ = [some (.ref x), some (.str n), some (.ref r), some (.ref l), none] ∧ Same H H1 ∧ H1 l = some (.lst (rrefs rs)) ∧ RowsOk K H1 rs ∧ SrtS rs ∧ rs.length ≤ 900 ∧ (HasRow F n row ↔ ∃ r, (r, row) ∈ rs), ?_, ?_⟩
    · obtain ⟨dx, ob⟩ := st.ob
      refine ⟨_, rfl, x, C, dx, _, _, rfl, ob, X.cl, X.nF, flds_f _ _ _ _, df, rfl, .inl ⟨_, .inl st.f⟩, _, rfl, sz 0, fun o no => ?_⟩
      have s1 := Same.new (o := .lst []) no
      have st1 := st.same s1
      cases e : valG F n with
      | none =>
        refine ⟨none, .inl ⟨kvF F, Sum.inr n, .inl st1.f, rfl, by rw [kvF_val, e]; rfl⟩, o, [], rfl, s1, upd_same, (fun _ m => nomatch m), ⟨.nil, fun _ m => nomatch m⟩, Nat.zero_le _, ?_⟩
        refine ⟨fun ⟨q', rs', e', _⟩ => ?_, fun ⟨r, m⟩ => nomatch m⟩
        rw [e] at e'
        cases e'
      | some a =>
        obtain ⟨qa, rs⟩ := a
        have m := valG_mem e
        obtain ⟨hq, ro, lr⟩ := st1.ft _ m
        have lr' : rs.length ≤ b := lr
        refine ⟨some (.ref qa), dgetF (.inl st1.f) e, qa, rs, rfl, s1, hq, ro, srt _ _ _ e, by omega, ?_⟩
        refine ⟨fun ⟨q', rs', e', h⟩ => ?_, fun h => ⟨qa, rs, e, h⟩⟩
        rw [e] at e'
        cases e'
        exact h
    · rintro σ H1 ⟨l, rs, rfl, s1, hl, ro, so, lr, hh⟩
      have hrow1 := Tk.same s1 _ _ hrow
      refine ⟨_, rfl, _, rfl, l, r, rs, row, rfl, SqL.of hl, ro, hrow1, srow, lrow, by omega, fun k H2 lk pl s2 => ?_⟩
      have hl2 := s2 _ _ hl
      obtain ⟨ts, ec, mts, ets⟩ := cut_rows rs (some (k : Int)) (some ((k : Int) + 1))
      have i1 : HT.sIx rs.length 0 (some (k : Int)) = k := by rw [HT.sIx_nat]; omega
      have i2 : HT.sIx rs.length rs.length (some ((k : Int) + 1)) = min (k + 1) rs.length := by
        have := HT.sIx_nat rs.length rs.length (k + 1)
        rw [← this]
        rfl
      have one : ts = (rs[k]?).toList := by
        rw [ets, i1, i2]
        by_cases hk : k < rs.length
        · rw [List.getElem?_eq_getElem hk, List.drop_eq_getElem_cons hk]
          have : min (k + 1) rs.length - k = 1 := by omega
          rw [this]
          rfl
        · rw [List.getElem?_eq_none (by omega), List.drop_of_length_le (by omega), List.take_nil]
          rfl
      refine ⟨_, rfl, _, rfl, (k : Int), rfl, _, rfl, (k : Int), 1, rfl, rfl, (k : Int) + 1, rfl, l, rrefs rs, rfl, SqL.of hl2, fun p np => ?_⟩
      rw [ec]
      have s3 := Same.new (o := .lst (rrefs ts)) np
      have e3 := upd_same (H := H2) (a := p) (o := .lst (rrefs ts))
      generalize (upd H2 p (.lst (rrefs ts))) = H3 at *
      refine ⟨_, rfl, sz 1, fun u nu => ?_⟩
      have s4 := Same.new (o := .lst [V.ref r]) nu
      have e4 := upd_same (H := H3) (a := u) (o := .lst [V.ref r])
      generalize (upd H3 u (.lst [V.ref r])) = H4 at *
      have s24 := s3.trans s4
      have ro4 := (ro.same s2).same s24
      have hrow4 := Tk.same (s2.trans s24) _ _ hrow1
      have rts : RowsOk K H4 ts := fun t m => ro4 t (mts t m)
      refine ⟨rwsD ts, .list [rowD row], .lst (SqL.of (s4 _ _ e3)) (rws_dp rts), .lst (SqL.of e4) (.cons (.tup hrow4 (sc_dp srow)) .nil), rws_shaped fun t m => (rts t m).2.1, ?_, ?_⟩
      · exact rws_shaped (rs := [(r, row)]) fun t m => by
          rw [List.mem_singleton.mp m]
          exact srow
      refine q _ _ ?_ ((s1.trans s2).trans s24)
      rw [hh, ← place_has so srow (pl so.1)]
      unfold rwsD
      rw [one, eqv_lst]
      cases e : rs[k]? with
      | none =>
        show PyData.eqvAll [] _ = true ↔ _
        rw [eqv_nc]
        exact ⟨(fun z => nomatch z), fun ⟨t, h, _⟩ => nomatch h⟩
      | some t =>
        have mt := List.mem_of_getElem? e
        show PyData.eqvAll [rowD t.2] [rowD row] = true ↔ _
        rw [eqv_cons, eqv_nil, Bool.and_true, eqv_row (ro t mt).2.1 srow, decide_eq_true_iff]
        exact ⟨fun h => ⟨t, rfl, h⟩, fun ⟨u, hu, h⟩ => by rw [Option.some.inj hu]; exact h⟩
end
end K1
namespace K1
open PySem PySem.Spec PyProof.Rows L2 Ow Tlz
abbrev N_law_is_dict : List Str := ["actual", "expected", "key"]
def spIsD (K : PySem.W.Frag) : Sp := fun vs H Q _ => ∃ (a b : Addr) (kvs kvs' : List (Key × V)), vs = [.ref a, .ref b] ∧ H a = some (.dK kvs) ∧ H b = some (.dK kvs') ∧ a ≠ b ∧ kvs.length = kvs'.length ∧
  (∀ k v, valV kvs' k = some v → ∃ v' d, valV kvs k = some v' ∧ Dp K H v' d ∧ Dp K H v d ∧ Gd 2 d) ∧ Mak H Q fun z _ => z = .bl true
mutual
theorem Dp.mv {K : PySem.W.Frag} {H H' : Hp} (l : ∀ a xs, SqL K H a xs → SqL K H' a xs) (t : Tk K H H') : ∀ (d : PyData) (v : V), Dp K H v d → Dp K H' v d
  | .none, _, .non => .non
  | .bool b, _, .bl _ => .bl b
  | .int i, _, .int _ => .int i
  | .str x, _, .str _ => .str x
  | .list xs, _, .lst s a => .lst (l _ _ s) (DpAll.mv l t xs _ a)
  | .tuple xs, _, .tup s a => .tup (t _ _ s) (DpAll.mv l t xs _ a)
theorem DpAll.mv {K : PySem.W.Frag} {H H' : Hp} (l : ∀ a xs, SqL K H a xs → SqL K H' a xs) (t : Tk K H H') : ∀ (ds : List PyData) (vs : List V), DpAll K H vs ds → DpAll K H' vs ds
  | [], _, .nil => .nil
  | d :: ds, _, .cons a b => .cons (Dp.mv l t d _ a) (DpAll.mv l t ds _ b)
end
theorem SqL.dK {K : PySem.W.Frag} {H : Hp} {p : Addr} {kvs : List (Key × V)} {o : HO} (e : H p = some (.dK kvs)) : ∀ a xs, SqL K H a xs → SqL K (upd H p o) a xs := fun a xs h => by
  rcases h with (h | ⟨u, h⟩) | h
  · exact .inl (.inl (by rw [upd_ne (fun z => by rw [z, e] at h; cases h)]; exact h))
  · exact .inl (.inr ⟨u, by rw [upd_ne (fun z => by rw [z, e] at h; cases h)]; exact h⟩)
  · exact .inr h
theorem valV_memK {kvs : List (Key × V)} {k : Key} {v : V} (h : (k, v) ∈ kvs) : ∃ v', valV kvs k = some v' := by
  unfold valV
  cases e : kvs.find? fun kv => decide (kv.1 = k) with
  | none =>
    have := List.find?_eq_none.mp e _ h
    exact absurd (decide_eq_true rfl) this
  | some x => exact ⟨x.2, rfl⟩
section
variable {P : Program} {w : World} {K : PySem.W.Frag} {mg : Str → Option Value} {base : Heap} {C : Addr}
end
/-! the tables that the law makes -/
structure DueAt (K : PySem.W.Frag) (H : Hp) (e0 e1 e2 e3 : Addr) (R : Tb) (F : Fb) (S : Tb) (L : List (Str × V)) (b : Nat) : Prop where
  r : H e0 = some (.dK (kvR R))
  rt : ∀ n q c, valG R n = some (q, c) → SqT K H q c
  f : H e1 = some (.dK (kvF F))
  ft : ∀ n q rs, valG F n = some (q, rs) → H q = some (.lst (rrefs rs)) ∧ RowsOk K H rs ∧ rs.length ≤ b
  s : H e2 = some (.dK (kvR S))
  st : ∀ n q c, valG S n = some (q, c) → SqT K H q c
  l : H e3 = some (.dK (kvG id L))
  ne : e0 ≠ e1 ∧ e0 ≠ e2 ∧ e0 ≠ e3 ∧ e1 ≠ e2 ∧ e1 ≠ e3 ∧ e2 ≠ e3
section
variable {K : PySem.W.Frag} {H H' : Hp} {e0 e1 e2 e3 : Addr} {R S : Tb} {F : Fb} {L : List (Str × V)} {b : Nat}
theorem DueAt.same (h : DueAt K H e0 e1 e2 e3 R F S L b) (s : Same H H') : DueAt K H' e0 e1 e2 e3 R F S L b :=
  ⟨s _ _ h.r, fun n q c e => Tk.same s _ _ (h.rt n q c e), s _ _ h.f, fun n q rs e => ⟨s _ _ (h.ft n q rs e).1, (h.ft n q rs e).2.1.same s, (h.ft n q rs e).2.2⟩, s _ _ h.s, fun n q c e => Tk.same s _ _ (h.st n q c e), s _ _ h.l, h.ne⟩
theorem DueAt.up {c : Nat} (h : DueAt K H e0 e1 e2 e3 R F S L b) (l : b ≤ c) : DueAt K H e0 e1 e2 e3 R F S L c :=
  ⟨h.r, h.rt, h.f, fun n q rs e => ⟨(h.ft n q rs e).1, (h.ft n q rs e).2.1, Nat.le_trans (h.ft n q rs e).2.2 l⟩, h.s, h.st, h.l, h.ne⟩
theorem DueAt.fl {p : Addr} {kvs : List (Key × V)} {o : HO} (h : DueAt K H e0 e1 e2 e3 R F S L b) (e : H p = some (.dK kvs)) : ∀ n q rs, valG F n = some (q, rs) → (upd H p o) q = some (.lst (rrefs rs)) ∧ RowsOk K (upd H p o) rs ∧ rs.length ≤ b := fun n q rs ev => by
  obtain ⟨h1, h2, h3⟩ := h.ft n q rs ev
  exact ⟨by rw [upd_ne (fun z => by rw [z, e] at h1; cases h1)]; exact h1, h2.tk (Tk.dK e), h3⟩
theorem DueAt.rel {n : Str} {q : Addr} {c : List V} (h : DueAt K H e0 e1 e2 e3 R F S L b) (hq : SqT K H q c) : DueAt K (upd H e0 (.dK (putK (kvR R) (Sum.inr n) (.ref q)))) e0 e1 e2 e3 (putG R n (q, c)) F S L b := by
  have tk : Tk K H (upd H e0 (.dK (putK (kvR R) (Sum.inr n) (.ref q)))) := Tk.dK h.r
  obtain ⟨n1, n2, n3, n4, n5, n6⟩ := h.ne
  refine ⟨?_, fun m q' c' e => ?_, by rw [upd_ne n1.symm]; exact h.f, h.fl h.r, by rw [upd_ne n2.symm]; exact h.s, fun m q' c' e => tk _ _ (h.st m q' c' e), by rw [upd_ne n3.symm]; exact h.l, h.ne⟩
  · rw [upd_same]
    exact congrArg (fun t => some (HO.dK t)) (kvG_put (fun b : Addr × List V => V.ref b.1) R n (q, c))
  · rw [valG_put] at e
    split at e
    · cases e; exact tk _ _ hq
    · exact tk _ _ (h.rt m q' c' e)
theorem DueAt.stru {n : Str} {q : Addr} {c : List V} (h : DueAt K H e0 e1 e2 e3 R F S L b) (hq : SqT K H q c) : DueAt K (upd H e2 (.dK (putK (kvR S) (Sum.inr n) (.ref q)))) e0 e1 e2 e3 R F (putG S n (q, c)) L b := by
  have tk : Tk K H (upd H e2 (.dK (putK (kvR S) (Sum.inr n) (.ref q)))) := Tk.dK h.s
  obtain ⟨n1, n2, n3, n4, n5, n6⟩ := h.ne
  refine ⟨by rw [upd_ne n2]; exact h.r, fun m q' c' e => tk _ _ (h.rt m q' c' e), by rw [upd_ne n4]; exact h.f, h.fl h.s, ?_, fun m q' c' e => ?_, by rw [upd_ne n6.symm]; exact h.l, h.ne⟩
  · rw [upd_same]
    exact congrArg (fun t => some (HO.dK t)) (kvG_put (fun b : Addr × List V => V.ref b.1) S n (q, c))
  · rw [valG_put] at e
    split at e
    · cases e; exact tk _ _ hq
    · exact tk _ _ (h.st m q' c' e)
theorem DueAt.lay {n : Str} {v : V} (h : DueAt K H e0 e1 e2 e3 R F S L b) : DueAt K (upd H e3 (.dK (putK (kvG id L) (Sum.inr n) v))) e0 e1 e2 e3 R F S (putG L n v) b := by
  have tk : Tk K H (upd H e3 (.dK (putK (kvG id L) (Sum.inr n) v))) := Tk.dK h.l
  obtain ⟨n1, n2, n3, n4, n5, n6⟩ := h.ne
  refine ⟨by rw [upd_ne n3]; exact h.r, fun m q' c' e => tk _ _ (h.rt m q' c' e), by rw [upd_ne n5]; exact h.f, h.fl h.l, by rw [upd_ne n6]; exact h.s, fun m q' c' e => tk _ _ (h.st m q' c' e), ?_, h.ne⟩
  rw [upd_same]
  exact congrArg (fun t => some (HO.dK t)) (kvG_put id L n v)
theorem DueAt.fac {n : Str} {q : Addr} {rs : List (Addr × List V)} (h : DueAt K H e0 e1 e2 e3 R F S L b) (hq : H q = some (.lst (rrefs rs))) (ro : RowsOk K H rs) (lr : rs.length ≤ b) : DueAt K (upd H e1 (.dK (putK (kvF F) (Sum.inr n) (.ref q)))) e0 e1 e2 e3 R (putG F n (q, rs)) S L b := by
  have tk : Tk K H (upd H e1 (.dK (putK (kvF F) (Sum.inr n) (.ref q)))) := Tk.dK h.f
  obtain ⟨n1, n2, n3, n4, n5, n6⟩ := h.ne
  refine ⟨by rw [upd_ne n1]; exact h.r, fun m q' c' e => tk _ _ (h.rt m q' c' e), ?_, fun m q' rs' e => ?_, by rw [upd_ne n4.symm]; exact h.s, fun m q' c' e => tk _ _ (h.st m q' c' e), by rw [upd_ne n5.symm]; exact h.l, h.ne⟩
  · rw [upd_same]
    exact congrArg (fun t => some (HO.dK t)) (kvG_put (fun b : Addr × List (Addr × List V) => V.ref b.1) F n (q, rs))
  · rw [valG_put] at e
    split at e
    · cases e
      exact ⟨by rw [upd_ne (fun z => by rw [z, h.f] at hq; cases hq)]; exact hq, ro.tk tk, lr⟩
    · exact h.fl h.f m q' rs' e
end
theorem putG_map {β γ : Type} (g : β → γ) (l : List (Str × β)) (k : Str) (b : β) : (putG l k b).map (fun e => (e.1, g e.2)) = putG (l.map fun e => (e.1, g e.2)) k (g b) := by
  unfold putG
  have ea : ((l.map fun e => (e.1, g e.2)).any fun e => decide (e.1 = k)) = l.any fun e => decide (e.1 = k) := by rw [List.any_map]; rfl
  rw [ea]
  split
  · rw [List.map_map, List.map_map]
    refine List.map_congr_left fun e _ => ?_
    show ((if e.1 = k then (e.1, b) else e).1, g (if e.1 = k then (e.1, b) else e).2) = if e.1 = k then (e.1, g b) else (e.1, g e.2)
    split <;> rfl
  · rw [List.map_append]
    rfl
theorem plc_last {os : Its} {t : Addr × It} (so : ScI os) (st : tSc (te t)) (h : ∀ u ∈ os, tLt (te u) (te t)) : plc os t = os ++ [t] := by
  unfold plc
  have e1 : (os.filter fun u => decide (tOrd (te u) (te t) ≠ 0)) = os := List.filter_eq_self.mpr fun u m => decide_eq_true fun z => tEq_lt st ((tOrd_zero (so u m) st).mp z) (h u m)
  have e2 : (os.countP fun u => decide (tOrd (te u) (te t) < 0)) = os.length := List.countP_eq_length.mpr fun u m => decide_eq_true (h u m)
  rw [e1, e2, List.take_length, List.drop_length, List.append_nil]
theorem Rep.congr {os os' : Its} {R S : Tb} {F : Fb} {L : List (Str × V)} (h : Rep os R F S L) (e : ∀ i, Has os i ↔ Has os' i) : Rep os' R F S L := by
  refine ⟨fun n c => by rw [h.r, e], fun n c => by rw [h.s, e], fun n v => by rw [h.l, e], fun n row => ?_, fun n => ?_, h.fs, h.rn, h.sn, h.ln, h.fd⟩
  · rw [h.f]
    exact exists_congr fun r => e _
  · rw [h.fn]
    exact or_congr (exists_congr fun c => e _) (exists_congr fun r => exists_congr fun row => e _)
theorem nodup_len {α : Type} [DecidableEq α] : ∀ {xs ys : List α}, xs.Nodup → (∀ x ∈ xs, x ∈ ys) → xs.length ≤ ys.length
  | [], _, _, _ => Nat.zero_le _
  | x :: xs, ys, nd, h => by
    rw [List.nodup_cons] at nd
    have m := h x List.mem_cons_self
    have ih := nodup_len (xs := xs) (ys := ys.erase x) nd.2 fun z mz => (List.mem_erase_of_ne (fun e => nd.1 (by rw [← e]; exact mz))).mpr (h z (List.mem_cons_of_mem _ mz))
    rw [List.length_erase_of_mem m] at ih
    have := List.length_pos_of_mem m
    rw [List.length_cons]
    omega
theorem tab_len {β : Type} {T : List (Str × β)} {os : Its} (nd : (T.map (·.1)).Nodup) (h : ∀ n, (valG T n).isSome = true → ∃ t ∈ os, itn t.2 = n) : T.length ≤ os.length := by
  have := nodup_len (ys := os.map fun t => itn t.2) nd fun n m => by
    obtain ⟨t, mt, e⟩ := h n (valG_key.mp m)
    exact List.mem_map.mpr ⟨t, mt, e⟩
  rw [List.length_map, List.length_map] at this
  exact this
theorem Rep.len {os : Its} {R S : Tb} {F : Fb} {L : List (Str × V)} (h : Rep os R F S L) : R.length ≤ os.length ∧ F.length ≤ os.length ∧ S.length ≤ os.length ∧ L.length ≤ os.length := by
  refine ⟨tab_len h.rn fun n e => ?_, tab_len h.fd fun n e => ?_, tab_len h.sn fun n e => ?_, tab_len h.ln fun n e => ?_⟩
  · cases z : valG R n with
    | none => rw [z] at e; cases e
    | some b =>
      obtain ⟨a, m⟩ := (h.r n b.2).mp ⟨b.1, z⟩
      exact ⟨_, m, rfl⟩
  · rcases (h.fn n).mp e with ⟨c, a, m⟩ | ⟨r, row, a, m⟩
    · exact ⟨_, m, rfl⟩
    · exact ⟨_, m, rfl⟩
  · cases z : valG S n with
    | none => rw [z] at e; cases e
    | some b =>
      obtain ⟨a, m⟩ := (h.s n b.2).mp ⟨b.1, z⟩
      exact ⟨_, m, rfl⟩
  · cases z : valG L n with
    | none => rw [z] at e; cases e
    | some b =>
      obtain ⟨a, m⟩ := (h.l n b).mp z
      exact ⟨_, m, rfl⟩
/-- an item behind all others is put -/
theorem Rep.last {os : Its} {t : Addr × It} {R R' S S' : Tb} {F F' : Fb} {L L' : List (Str × V)} (h : Rep os R F S L) (p : PutI R F S L t.2 R' F' S' L') (so : ScI os) (st : tSc (te t)) (lt : ∀ u ∈ os, tLt (te u) (te t)) : Rep (os ++ [t]) R' F' S' L' := by
  rw [← plc_last so st lt]
  exact h.put p so st
/-- a fact behind all others is put, in a new list -/
theorem Rep.lastF {os : Its} {a : Addr} {n : Str} {r q : Addr} {row : List V} {R S : Tb} {F : Fb} {L : List (Str × V)} (h : Rep os R F S L) (so : ScI os) (st : ∀ v ∈ row, Scal v) (lt : ∀ u ∈ os, tLt (te u) (te (a, .fact n r row))) : Rep (os ++ [(a, .fact n r row)]) R (putG F n (q, rOf F n ++ [(r, row)])) S L := by
  have st' : tSc (te (a, .fact n r row)) := st
  cases e : valG F n with
  | none =>
    have er : rOf F n = [] := by unfold rOf; rw [e]
    rw [er]
    refine h.last (t := (a, .fact n r row)) ⟨⟨q, [], F ++ [(n, q, [])], 0, .inr ⟨e, rfl, rfl⟩, Nat.le_refl _, fun _ => ⟨(fun j t h => absurd h (Nat.not_lt_zero _)), fun j t _ h => by cases h⟩, .inr ⟨?_, fun t h => by cases h⟩⟩, rfl, rfl, rfl⟩ so st' lt
    show putG F n (q, [(r, row)]) = putG (F ++ [(n, q, [])]) n (q, [(r, row)])
    rw [← putG_new (q, ([] : List (Addr × List V))) e]
    have e2 : valG (putG F n (q, ([] : List (Addr × List V)))) n = some (q, []) := by rw [valG_put, if_pos rfl]
    rw [putG_new _ e, putG_new _ e]
    unfold putG
    have e3 : ((F ++ [(n, q, ([] : List (Addr × List V)))]).any fun e => decide (e.1 = n)) = true := by rw [List.any_append]; simp
    rw [e3, if_pos rfl, List.map_append]
    have e4 : F.map (fun x => if x.1 = n then (x.1, (q, [(r, row)])) else x) = F := by
      rw [show F.map (fun x => if x.1 = n then (x.1, (q, [(r, row)])) else x) = F.map id from List.map_congr_left fun x m => by rw [if_neg (valG_none e x m)]; rfl, List.map_id]
    rw [e4]
    show _ = F ++ [if n = n then (n, (q, [(r, row)])) else (n, q, [])]
    rw [if_pos rfl]
  | some b =>
    obtain ⟨q0, rs⟩ := b
    have er : rOf F n = rs := rOf_eq e
    rw [er]
    have hs := h.fs n q0 rs e
    have pl : Place rs row rs.length := by
      refine ⟨fun j t hj et => ?_, fun j t hj et => ?_⟩
      · obtain ⟨r', a', m⟩ := (h.f n t.2).mp ⟨q0, rs, e, t.1, List.mem_of_getElem? et⟩
        have l := (tLt_iff _ _).mp (lt _ m)
        rcases l with l | ⟨_, l | ⟨_, l⟩⟩
        · exact absurd (show (1 : Int) < 1 from l) (by decide)
        · exact absurd (show n.cps.toList < n.cps.toList from l) (List.lt_irrefl _)
        · exact l
      · have := (List.getElem?_eq_some_iff.mp et).1
        omega
    have h1 := h.last (t := (a, .fact n r row)) (R' := R) (S' := S) (L' := L) (F' := putG F n (q0, rs ++ [(r, row)])) ⟨⟨q0, rs, F, rs.length, .inl ⟨rfl, e⟩, Nat.le_refl _, fun _ => pl, .inr ⟨?_, fun t h => by rw [List.getElem?_eq_none (Nat.le_refl _)] at h; cases h⟩⟩, rfl, rfl, rfl⟩ so st' lt
    · refine h1.copyF ?_
      rw [putG_map (fun b : Addr × List (Addr × List V) => b.2), putG_map (fun b : Addr × List (Addr × List V) => b.2)]
    · rw [List.take_length, List.drop_length, List.append_nil]
end K1
namespace K1
open PySem PySem.Spec PyProof.Rows L2 Ow Tlz
theorem flds_no {m : Str} (a b c d : V) (h : ¬ m = "relations" ∧ ¬ m = "facts" ∧ ¬ m = "structures" ∧ ¬ m = "layouts") : (flds a b c d).lookup m = none := by
  unfold flds
  rw [lookup_putF, if_neg h.2.2.2, lookup_putF, if_neg h.2.2.1, lookup_putF, if_neg h.2.1, lookup_putF, if_neg h.1]
  rfl
/-- the methods of the class -/
structure Mths (P : Program) (w : World) (K : PySem.W.Frag) (mg : Str → Option Value) (base : Heap) (C : Addr) : Prop where
  al : ∃ (f : Addr) (fd : FuncData), Meth K C "all_items" f ∧ FnOk P w K mg base CX0 1 f fd ["self"] (spAll K C) ∧ Binds K fd ["self"] []
  ha : ∃ (f : Addr) (fd : FuncData), Meth K C "has" f ∧ FnOk P w K mg base CX0 4 f fd ["self", "relation", "row"] (spHas K C) ∧ Binds K fd ["self", "relation", "row"] []
  co : ∃ (f : Addr) (fd : FuncData), Meth K C "copy" f ∧ FnOk P w K mg base CX0 8 f fd ["self"] (spCopy K C) ∧ Binds K fd ["self"] []
def isRel : Addr × It → Bool
  | (_, .rel _ _) => true
  | _ => false
theorem valV_inl {β : Type} (vv : β → V) (i : Int) : ∀ l : List (Str × β), valV (kvG vv l) (Sum.inl i) = none
  | [] => rfl
  | e :: l => by
    have h1 : valV (kvG vv (e :: l)) (Sum.inl i) = valV (kvG vv l) (Sum.inl i) := valV_neg (p := ((Sum.inr e.1 : Key), vv e.2)) (fun z => by cases z)
    rw [h1]
    exact valV_inl vv i l
def spIsSt (K : PySem.W.Frag) (C : Addr) : Sp := fun vs H Q _ => ∃ (x o dr df ds dl : Addr) (Z : Addr → Prop) (R S : Tb) (F : Fb) (L : List (Str × V)) (b : Nat) (os : Its), vs = [.ref x, .ref o] ∧ StAt K C Z H x dr df ds dl R F S L b ∧ b ≤ 300 ∧
  SqL K H o (irf os) ∧ ItsG K H os ∧ KSrt os ∧ os.length ≤ 40 ∧ Rep os R F S L ∧ Mak H Q fun z _ => z = .bl true
abbrev N_law_is_state : List Str := ["actual", "ordered", "due", "item", "relations", "facts", "structures", "layouts"]
theorem has_filter {os : Its} {P : Addr × It → Bool} {i : It} : Has (os.filter P) i ↔ ∃ a, (a, i) ∈ os ∧ P (a, i) = true := by
  unfold Has
  exact exists_congr fun a => List.mem_filter
theorem filter_take {os : Its} {P : Addr × It → Bool} {j : Nat} {t : Addr × It} (e : os[j]? = some t) : (os.take (j + 1)).filter P = (os.take j).filter P ++ if P t = true then [t] else [] := by
  rw [take_snoc' e, List.filter_append, List.filter_cons, List.filter_nil]
/-- the dicts are equal: what is asked of them -/
theorem isd_tab {K : PySem.W.Frag} {H : Hp} {T T' : Tb} (rt : ∀ e ∈ T, SqT K H e.2.1 e.2.2) (rt' : ∀ n q c, valG T' n = some (q, c) → SqT K H q c) (h : ∀ n q c, valG T' n = some (q, c) → ∃ q', valG T n = some (q', c))
    (g : ∀ n q c, valG T n = some (q, c) → c.length ≤ 10 ∧ CD K H c) : ∀ k v, valV (kvR T') k = some v → ∃ v' d, valV (kvR T) k = some v' ∧ Dp K H v' d ∧ Dp K H v d ∧ Gd 2 d := by
  intro k v e
  cases k with
  | inl i => rw [show valV (kvR T') (Sum.inl i) = none from valV_inl _ i T'] at e; cases e
  | inr n =>
    rw [kvR_val] at e
    cases z : valG T' n with
    | none => rw [z] at e; cases e
    | some x =>
      rw [z] at e
      have ev : V.ref x.1 = v := Option.some.inj e
      obtain ⟨q', e'⟩ := h n x.1 x.2 z
      obtain ⟨l, ds, dp, gd, _⟩ := g n q' x.2 e'
      refine ⟨.ref q', .tuple ds, by rw [kvR_val, e']; rfl, .tup (rt _ (valG_mem e')) dp, ?_, Gd.tup (by rw [← DpAll.len dp]; omega) gd⟩
      rw [← ev]
      exact .tup (rt' n x.1 x.2 z) dp
section
variable {P : Program} {w : World} {K : PySem.W.Frag} {mg : Str → Option Value} {base : Heap} {C : Addr}
end
end K1
namespace K1
open PySem PySem.Spec PyProof.Rows L2 Ow Tlz
/-- what stays of a State when other places change -/
theorem StAt.fr {K : PySem.W.Frag} {C x dr df ds dl : Addr} {Z Y : Addr → Prop} {H H' : Hp} {R S : Tb} {F : Fb} {L : List (Str × V)} {b : Nat} (h : StAt K C Z H x dr df ds dl R F S L b) (kp : Kp Y H H') (t : Tk K H H')
    (y : ∀ a, (a = x ∨ a = dr ∨ a = df ∨ a = ds ∨ a = dl ∨ ∃ e ∈ F, e.2.1 = a) → ¬ Y a) (nn : ∀ a, H' a = none → H a = none) : StAt K C Z H' x dr df ds dl R F S L b := by
  obtain ⟨⟨dx, ob⟩, r, rt, f, ft, fz, fp, fn, s', st, l, z, ne, nw, ln⟩ := h
  refine ⟨⟨dx, kp _ _ (y x (.inl rfl)) ob⟩, kp _ _ (y dr (.inr (.inl rfl))) r, fun e m => t _ _ (rt e m), kp _ _ (y df (.inr (.inr (.inl rfl)))) f, fun e m => ⟨kp _ _ (y _ (.inr (.inr (.inr (.inr (.inr ⟨e, m, rfl⟩)))))) (ft e m).1, (ft e m).2.1.tk t, (ft e m).2.2⟩,
    fz, fp, fn, kp _ _ (y ds (.inr (.inr (.inr (.inl rfl))))) s', fun e m => t _ _ (st e m), kp _ _ (y dl (.inr (.inr (.inr (.inr (.inl rfl)))))) l, z, ne, fun a n => nw a (nn a n), ln⟩
/-- the places of a State -/
theorem StAt.own {K : PySem.W.Frag} {C x dr df ds dl : Addr} {Z : Addr → Prop} {H : Hp} {R S : Tb} {F : Fb} {L : List (Str × V)} {b : Nat} (h : StAt K C Z H x dr df ds dl R F S L b) {a : Addr} (m : a = x ∨ a = dr ∨ a = df ∨ a = ds ∨ a = dl ∨ ∃ e ∈ F, e.2.1 = a) : a = x ∨ Z a := by
  rcases m with m | m | m | m | m | ⟨e, m, m2⟩
  · exact .inl m
  · rw [m]; exact .inr h.z.1
  · rw [m]; exact .inr h.z.2.1
  · rw [m]; exact .inr h.z.2.2.1
  · rw [m]; exact .inr h.z.2.2.2.1
  · rw [← m2]; exact .inr (h.fz e m)
/-- a list changes that the State has not -/
theorem StAt.gwp {K : PySem.W.Frag} {C x dr df ds dl p : Addr} {Z : Addr → Prop} {H H' : Hp} {R S : Tb} {F : Fb} {L : List (Str × V)} {b : Nat} {us ws : List V} (h : StAt K C Z H x dr df ds dl R F S L b) (hp : H p = some (.lst us)) (nz : ¬ Z p) (g : Gw p H H') (hp' : H' p = some (.lst ws)) : StAt K C Z H' x dr df ds dl R F S L b := by
  refine h.fr (Y := fun a => a = p) (fun a o n e => g a o n e) (Tk.gw hp g) (fun a m z => ?_) fun a n => ?_
  · rcases h.own m with e | e
    · obtain ⟨dx, ob⟩ := h.ob
      rw [← e, z, hp] at ob
      cases ob
    · exact nz (by rw [← z]; exact e)
  · exact g.free n fun z => by rw [z, hp'] at n; cases n
theorem eqv_fact {K : PySem.W.Frag} {H : Hp} {a : Addr} {i : It} (h : ItG K H a i) (n : Str) {row : List V} (sr : ∀ x ∈ row, Scal x) : ∃ d, Dp K H (.ref a) d ∧ Gd 2 d ∧ (PyData.eqv d (.tuple [.str "fact", .str n, rowD row]) = true ↔ ∃ r, i = .fact n r row) := by
  have wd : ∀ {w : Str} {xs : List PyData}, ¬ w = PySem.Str.ofString "fact" → PyData.eqv (.tuple (.str w :: xs)) (.tuple [.str "fact", .str n, rowD row]) = false := fun {w xs} ne => by
    rw [eqv_tup, eqv_cons, eqv_str]
    have : (w == PySem.Str.ofString "fact") = false := by simpa using ne
    rw [this]
    rfl
  cases i with
  | rel m c =>
    obtain ⟨d, d1, _, g⟩ := it_data h h rfl
    have h0 : SqT K H a (.str "relation" :: .str m :: c) := h.at_
    obtain ⟨ds, hd, hg, _⟩ := h.c
    have hd' : DpAll K H c ds := hd
    have gl : Gd 2 (.tuple (.str "relation" :: .str m :: ds)) := Gd.tup (k := 1) (by have := DpAll.len hd'; have := h.l; simp [cnt, cln] at this; rw [List.length_cons, List.length_cons]; omega) fun x mx => by
      rcases List.mem_cons.mp mx with z | mx
      · rw [z]; exact (Gd.str (by decide +kernel)).up (by omega)
      · rcases List.mem_cons.mp mx with z | mx
        · rw [z]; exact (Gd.str h.n).up (by omega)
        · exact hg x mx
    refine ⟨_, .tup h0 (.cons (.str _) (.cons (.str _) hd')), gl, ?_⟩
    rw [wd (by decide +kernel)]
    exact ⟨fun z => (by cases z), fun ⟨r, z⟩ => (by cases z)⟩
  | str m c =>
    have h0 : SqT K H a (.str "structure" :: .str m :: c) := h.at_
    obtain ⟨ds, hd, hg, _⟩ := h.c
    have hd' : DpAll K H c ds := hd
    have gl : Gd 2 (.tuple (.str "structure" :: .str m :: ds)) := Gd.tup (k := 1) (by have := DpAll.len hd'; have := h.l; simp [cnt, cln] at this; rw [List.length_cons, List.length_cons]; omega) fun x mx => by
      rcases List.mem_cons.mp mx with z | mx
      · rw [z]; exact (Gd.str (by decide +kernel)).up (by omega)
      · rcases List.mem_cons.mp mx with z | mx
        · rw [z]; exact (Gd.str h.n).up (by omega)
        · exact hg x mx
    refine ⟨_, .tup h0 (.cons (.str _) (.cons (.str _) hd')), gl, ?_⟩
    rw [wd (by decide +kernel)]
    exact ⟨fun z => (by cases z), fun ⟨r, z⟩ => (by cases z)⟩
  | lay m v =>
    have h0 : SqT K H a [.str "layout", .str m, v] := h.at_
    obtain ⟨ds, hd, hg, _⟩ := h.c
    have hd' : DpAll K H [v] ds := hd
    have gl : Gd 2 (.tuple (.str "layout" :: .str m :: ds)) := Gd.tup (k := 1) (by have := DpAll.len hd'; rw [List.length_cons, List.length_cons]; show ds.length + 2 ≤ 1000; rw [← this]; show 1 + 2 ≤ 1000; decide) fun x mx => by
      rcases List.mem_cons.mp mx with z | mx
      · rw [z]; exact (Gd.str (by decide +kernel)).up (by omega)
      · rcases List.mem_cons.mp mx with z | mx
        · rw [z]; exact (Gd.str h.n).up (by omega)
        · exact hg x mx
    refine ⟨_, .tup h0 (.cons (.str _) (.cons (.str _) hd')), gl, ?_⟩
    rw [wd (by decide +kernel)]
    exact ⟨fun z => (by cases z), fun ⟨r, z⟩ => (by cases z)⟩
  | fact m r row' =>
    obtain ⟨h1, h2, h3, h4⟩ := h.at_
    refine ⟨.tuple [.str "fact", .str m, rowD row'], .tup h1 (.cons (.str _) (.cons (.str _) (.cons (.tup h2 (sc_dp h3)) .nil))), ?_, ?_⟩
    · refine Gd.tup (by show 3 ≤ 1000; decide) fun d mm => ?_
      simp only [List.mem_cons, List.not_mem_nil, or_false] at mm
      rcases mm with z | z | z
      · rw [z]; exact (Gd.str (by decide +kernel)).up (by omega)
      · rw [z]; exact (Gd.str h.n).up (by omega)
      · rw [z]; exact Gd.row h3 (by omega)
    · rw [eqv_tup, eqv_cons, eqv_cons, eqv_cons, eqv_nil, eqv_str, eqv_str, eqv_row h3 sr, Bool.and_true]
      constructor
      · intro z
        rw [Bool.and_eq_true, Bool.and_eq_true] at z
        have e1 : m = n := by simpa using z.2.1
        have e2 : row' = row := of_decide_eq_true z.2.2
        exact ⟨r, by rw [e1, e2]⟩
      · rintro ⟨r', z⟩
        have e1 : m = n := (It.fact.inj z).1
        have e2 : row' = row := (It.fact.inj z).2.2
        subst e1 e2
        simp
theorem its_in {K : PySem.W.Frag} {H : Hp} (n : Str) {row : List V} (sr : ∀ x ∈ row, Scal x) : ∀ {os : Its}, ItsG K H os → ∃ ds, DpAll K H (irf os) ds ∧ (∀ d ∈ ds, Gd 2 d) ∧ ((ds.any fun z => PyData.eqv z (.tuple [.str "fact", .str n, rowD row])) = true ↔ ∃ r, Has os (.fact n r row))
  | [], _ => ⟨[], .nil, (fun _ m => nomatch m), ⟨(fun z => nomatch z), fun ⟨r, a, m⟩ => nomatch m⟩⟩
  | t :: os, h => by
    obtain ⟨ds, a, b, c⟩ := its_in n sr (os := os) fun u m => h u (List.mem_cons_of_mem _ m)
    obtain ⟨d, p, g, e⟩ := eqv_fact (h t List.mem_cons_self) n sr
    refine ⟨d :: ds, .cons p a, fun x m => ?_, ?_⟩
    · rcases List.mem_cons.mp m with z | m
      · rw [z]; exact g
      · exact b x m
    · rw [List.any_cons, Bool.or_eq_true, e, c]
      constructor
      · rintro (⟨r, z⟩ | ⟨r, a', m⟩)
        · exact ⟨r, t.1, by rw [← z]; exact List.mem_cons_self⟩
        · exact ⟨r, a', List.mem_cons_of_mem _ m⟩
      · rintro ⟨r, a', m⟩
        rcases List.mem_cons.mp m with z | m
        · exact .inl ⟨r, by rw [← z]⟩
        · exact .inr ⟨r, a', m⟩
mutual
theorem eqv_self : ∀ d : PyData, ist d = true → PyData.eqv d d = true
  | .none, _ => by simp [PyData.eqv]
  | .bool _, _ => by simp [PyData.eqv]
  | .int _, _ => by simp [PyData.eqv]
  | .str _, _ => by simp [PyData.eqv]
  | .list xs, h => by
    rw [ist, Bool.and_eq_true] at h
    rw [PyData.eqv]
    exact eqvAll_self xs h.2
  | .tuple xs, h => by
    rw [ist, Bool.and_eq_true] at h
    rw [PyData.eqv]
    exact eqvAll_self xs h.2
theorem eqvAll_self : ∀ ds : List PyData, ists ds = true → PyData.eqvAll ds ds = true
  | [], _ => by rw [PyData.eqvAll]
  | d :: ds, h => by
    rw [ists, Bool.and_eq_true] at h
    rw [PyData.eqvAll, eqv_self d h.1, eqvAll_self ds h.2]
    rfl
end
end K1
/-! more of Ow: methods, makings, comprehensions -/
namespace Ow
open PySem PySem.Spec PyProof.Rows L2
def rListK (K : PySem.W.Frag) : List V → Hp → VK → Prop := fun xs H Q => ∃ p ys, xs = [V.ref p] ∧ (SqL K H p ys ∨ SqT K H p ys) ∧ ∀ l, H l = none → Q (.ref l) (upd H l (.lst ys))
theorem call_list_K {X : Cx} {K : PySem.W.Frag} (e : X.K = K) : CallR X (.type "list") (rListK K) := by
  subst e
  exact call_list_of
theorem call_min_K {X : Cx} {K : PySem.W.Frag} (e : X.K = K) (hc : X.calm = true) : CallR X (.builtin "min") (rMin K) := by
  subst e
  exact cr_min hc
theorem call_max_K {X : Cx} {K : PySem.W.Frag} (e : X.K = K) (hc : X.calm = true) : CallR X (.builtin "max") (rMax K) := by
  subst e
  exact cr_max hc
theorem call_sum_K {X : Cx} {K : PySem.W.Frag} (e : X.K = K) (hc : X.calm = true) : CallR X (.builtin "sum") (rSum K) := by
  subst e
  exact cr_sum hc
/-- a comprehension whose turns leave what was: of the turns i with p i the value ys i -/
theorem lc_fl {J : L2.It} {n : Nat} {G : Hp → Prop} {Y : Nat → Hp → V → Hp → Prop} (w : Walk J n G Y) (p : Nat → Bool) (ys : Nat → V) (hn : n < sizeLine) {g : TG} {tt : TT} {te : TE} {vs : List Nat} {σ : L2.St} {H1 : Hp} {D : Addr} {Qd : Hp → Prop} (hD : H1 D = none)
    (hG : ∀ H, Same H1 H → G H)
    (hs : ∀ i x H H' (N : VK) (M : Hp → Prop), i < n → Same H1 H → Y i H x H' → (p i = true → ∀ H4, Same H H4 → N (ys i) H4) → (p i = false → ∀ H4, Same H H4 → M H4) →
      g x (wipe σ vs) H' fun σ2 H2 => wipe σ2 vs = wipe σ vs ∧ tt σ2 H2 fun b H3 => if b = true then te σ2 H3 N else M H3)
    (hd : ∀ H, Same H1 H → H D = some (.lst (((List.range n).filter p).map ys)) → Qd H) :
    ∃ W : Nat → Nat → Hp → Prop, (∃ m, W 0 m (upd H1 D (.lst []))) ∧ ∀ i m H, W i m H →
      (J.stop i H ∧ Qd H) ∨ (J.go i H ∧ ∃ Nx : Hp → Prop, (∀ H', Nx H' → ∃ m', m' < m ∧ W (i + 1) m' H') ∧ ∀ x H', J.yld i H x H' → g x (wipe σ vs) H' fun σ2 H2 => wipe σ2 vs = wipe σ vs ∧ tt σ2 H2 fun b H3 =>
        if b = true then te σ2 H3 fun y H4 => ∃ acc, H4 D = some (.lst acc) ∧ acc.length < sizeLine ∧ Nx (upd H4 D (.lst (acc ++ [y]))) else Nx H3) := by
  have pre : ∀ i, (((List.range i).filter p).map ys).length ≤ i := fun i => by
    rw [List.length_map]
    exact Nat.le_trans (List.length_filter_le _ _) (by rw [List.length_range]; exact Nat.le_refl _)
  refine lc_it w (fun i H => Same H1 H ∧ H D = some (.lst (((List.range i).filter p).map ys))) ⟨Same.new hD, upd_same⟩ (fun i H _ h => hG H h.1) (fun i x H H' hi h y => ?_) fun H h => hd H h.1 h.2
  have st : ((List.range (i + 1)).filter p).map ys = ((List.range i).filter p).map ys ++ (if p i = true then [ys i] else []) := by
    rw [List.range_succ, List.filter_append, List.map_append]
    cases e : p i <;> simp [List.filter, e]
  refine hs i x H H' _ _ hi h.1 y (fun e H4 s4 => ?_) fun e H4 s4 => ?_
  · refine ⟨_, s4 _ _ h.2, Nat.lt_of_le_of_lt (pre i) (Nat.lt_trans hi hn), Same.over (h.1.trans s4) hD, ?_⟩
    rw [upd_same, st, if_pos e]
  · refine ⟨h.1.trans s4, ?_⟩
    rw [s4 _ _ h.2, st, e, if_neg (by decide), List.append_nil]
theorem filter_all {α : Type} (xs : List α) : xs.filter (fun _ => true) = xs := by
  induction xs with
  | nil => rfl
  | cons x r ih => simp [List.filter, ih]
/-- every turn gives a value -/
theorem lc_mk {J : L2.It} {n : Nat} {G : Hp → Prop} {Y : Nat → Hp → V → Hp → Prop} (w : Walk J n G Y) (ys : Nat → V) (hn : n < sizeLine) {g : TG} {te : TE} {vs : List Nat} {σ : L2.St} {H1 : Hp} {D : Addr} {Qd : Hp → Prop} (hD : H1 D = none)
    (hG : ∀ H, Same H1 H → G H)
    (hs : ∀ i x H H' (N : VK), i < n → Same H1 H → Y i H x H' → (∀ H4, Same H H4 → N (ys i) H4) → g x (wipe σ vs) H' fun σ2 H2 => wipe σ2 vs = wipe σ vs ∧ te σ2 H2 N)
    (hd : ∀ H, Same H1 H → H D = some (.lst ((List.range n).map ys)) → Qd H) :
    ∃ W : Nat → Nat → Hp → Prop, (∃ m, W 0 m (upd H1 D (.lst []))) ∧ ∀ i m H, W i m H →
      (J.stop i H ∧ Qd H) ∨ (J.go i H ∧ ∃ Nx : Hp → Prop, (∀ H', Nx H' → ∃ m', m' < m ∧ W (i + 1) m' H') ∧ ∀ x H', J.yld i H x H' → g x (wipe σ vs) H' fun σ2 H2 => wipe σ2 vs = wipe σ vs ∧ tYes σ2 H2 fun b H3 =>
        if b = true then te σ2 H3 fun y H4 => ∃ acc, H4 D = some (.lst acc) ∧ acc.length < sizeLine ∧ Nx (upd H4 D (.lst (acc ++ [y]))) else Nx H3) :=
  lc_fl w (fun _ => true) ys hn hD hG (fun i x H H' N M hi s y h1 _ => hs i x H H' N hi s y (h1 rfl)) (by rw [filter_all]; exact hd)
/-- every turn gives a new list, of the row i -/
theorem lc_new {J : L2.It} {n : Nat} {G : Hp → Prop} {Y : Nat → Hp → V → Hp → Prop} (w : Walk J n G Y) (row : Nat → List V) (hn : n < sizeLine) {g : TG} {te : TE} {vs : List Nat} {σ : L2.St} {H1 : Hp} {D : Addr} {Qd : Hp → Prop} (hD : H1 D = none)
    (hG : ∀ H, Same H1 H → G H)
    (hs : ∀ i x H H' (N : VK), i < n → Same H1 H → Y i H x H' → (∀ H4 q, Same H H4 → H q = none → H4 q = some (.lst (row i)) → N (.ref q) H4) → g x (wipe σ vs) H' fun σ2 H2 => wipe σ2 vs = wipe σ vs ∧ te σ2 H2 N)
    (hd : ∀ (H : Hp) (ts : List Addr), Same H1 H → H D = some (.lst (ts.map V.ref)) → ts.length = n → (∀ i t, ts[i]? = some t → H1 t = none ∧ t ≠ D ∧ H t = some (.lst (row i))) → Qd H) :
    ∃ W : Nat → Nat → Hp → Prop, (∃ m, W 0 m (upd H1 D (.lst []))) ∧ ∀ i m H, W i m H →
      (J.stop i H ∧ Qd H) ∨ (J.go i H ∧ ∃ Nx : Hp → Prop, (∀ H', Nx H' → ∃ m', m' < m ∧ W (i + 1) m' H') ∧ ∀ x H', J.yld i H x H' → g x (wipe σ vs) H' fun σ2 H2 => wipe σ2 vs = wipe σ vs ∧ tYes σ2 H2 fun b H3 =>
        if b = true then te σ2 H3 fun y H4 => ∃ acc, H4 D = some (.lst acc) ∧ acc.length < sizeLine ∧ Nx (upd H4 D (.lst (acc ++ [y]))) else Nx H3) := by
  refine lc_it w (fun i H => Same H1 H ∧ ∃ ts : List Addr, H D = some (.lst (ts.map V.ref)) ∧ ts.length = i ∧ ∀ j t, ts[j]? = some t → H1 t = none ∧ t ≠ D ∧ H t = some (.lst (row j))) ⟨Same.new hD, [], upd_same, rfl, fun j t e => by simp at e⟩ (fun i H _ h => hG H h.1) (fun i x H H' hi h y => ?_) fun H h => ?_
  · obtain ⟨s, ts, eD, el, et⟩ := h
    refine hs i x H H' _ hi s y fun H4 q s4 nq eq => ?_
    have qD : q ≠ D := fun z => by rw [z, eD] at nq; cases nq
    refine ⟨_, s4 _ _ eD, by rw [List.length_map, el]; exact Nat.lt_trans hi hn, Same.over (s.trans s4) hD, ts ++ [q], ?_, by rw [List.length_append, el]; rfl, fun j t ej => ?_⟩
    · rw [upd_same, List.map_append]
      rfl
    · rcases Nat.lt_trichotomy j ts.length with h1 | h1 | h1
      · rw [List.getElem?_append_left h1] at ej
        obtain ⟨f1, f2, f3⟩ := et j t ej
        exact ⟨f1, f2, by rw [upd_ne f2]; exact s4 _ _ f3⟩
      · subst h1
        have e2 : q = t := by simpa using ej
        subst e2
        refine ⟨?_, qD, by rw [upd_ne qD, el]; exact eq⟩
        cases z : H1 q with
        | none => rfl
        | some o => rw [s q o z] at nq; cases nq
      · rw [List.getElem?_eq_none (by rw [List.length_append, List.length_singleton]; omega)] at ej
        cases ej
  · obtain ⟨s, ts, eD, el, et⟩ := h
    exact hd H ts s eD el et
/-- the method m of the class C keeps sp, by k levels -/
structure Kmt (P : Program) (w : World) (K : PySem.W.Frag) (mg : Str → Option Value) (base : Heap) (C : Addr) (k : Nat) (m : Str) (ps : List Str) (sp : Sp) : Prop where
  ex : ∃ f fd, Meth K C m f ∧ FnOk P w K mg base CX0 k f fd ps sp ∧ Binds K fd ps []
  cl : Cls K C
theorem pe_mt {X : Cx} {k j : Nat} {C : Addr} {m : Str} {ps : List Str} {sp : Sp} {o e : Expr} {es : List Expr} {ta : TE} {t : TA} {apos pos : Pos} {pl : Sem Bool} (c : Kmt X.prog X.w X.K X.mg X.base C k m ps sp) (hr : Room j X.A) (he : PE X o ta) (ha : PA X (e :: es) t) (hk : k ≤ j := by decide)
    (hst : starEach (e :: es) X.env = (false, eval e X.env) :: starEach es X.env := by rfl) (hpl : (backTo pos (starEach es X.env)).any (·.1) = false := by rfl)
    (ht : eval (.Call (.Attribute o m apos) (e :: es) [] pos) X.env = (do
      let ov ← eval o X.env; standAt apos.atName
      let (f, first) ← holding [ov] (getMethod ov m pl)
      callWith pos f first (backTo pos (starEach (e :: es) X.env)) (backToKw pos (keywordEach [] X.env))) := by rfl) :
    PE X (.Call (.Attribute o m apos) (e :: es) [] pos) (tMeth C m sp [] E0 ta t) := by
  obtain ⟨f, fd, hm, F, b⟩ := c.ex
  exact pe_meth he c.cl hm F (hr.mono hk) b .nil pass0 ha hst hpl ht
theorem pi_list_K {X : Cx} {K : PySem.W.Frag} (eK : X.K = K) {tg l : Expr} {tl : TE} (h : PE X l tl) : PI X tg l (iList K tl) := by
  subst eK
  exact pi_list h
theorem sqt_same {K : PySem.W.Frag} {H H' : Hp} {t : Addr} {xs : List V} (s : Same H H') (e : SqT K H t xs) : SqT K H' t xs := by
  rcases e with (h | ⟨o, h⟩) | h
  · exact .inl (.inl (s _ _ h))
  · exact .inl (.inr ⟨o, s _ _ h⟩)
  · exact .inr h
theorem pe_mt0 {X : Cx} {k j : Nat} {C : Addr} {m : Str} {ps : List Str} {sp : Sp} {o : Expr} {ta : TE} {apos pos : Pos} {pl : Sem Bool} (c : Kmt X.prog X.w X.K X.mg X.base C k m ps sp) (hr : Room j X.A) (he : PE X o ta) (hk : k ≤ j := by decide)
    (ht : eval (.Call (.Attribute o m apos) [] [] pos) X.env = (do
      let ov ← eval o X.env; standAt apos.atName
      let (f, first) ← holding [ov] (getMethod ov m pl)
      callWith pos f first (backTo pos (starEach [] X.env)) (backToKw pos (keywordEach [] X.env))) := by rfl) :
    PE X (.Call (.Attribute o m apos) [] [] pos) (tMeth C m sp [] E0 ta tNil) := by
  obtain ⟨f, fd, hm, F, b⟩ := c.ex
  exact pe_meth0 he c.cl hm F (hr.mono hk) b .nil pass0 ht
/-- the class C is made by an __init__ that keeps sp, by k levels -/
structure Kmk (P : Program) (w : World) (K : PySem.W.Frag) (mg : Str → Option Value) (base : Heap) (C : Addr) (k : Nat) (ps : List Str) (sp : Sp) : Prop where
  ex : ∃ f fd, Mk K C f ∧ FnOk P w K mg base CX0 k f fd ps sp ∧ Binds K fd ps []
theorem pe_mk {X : Cx} {k j : Nat} {C : Addr} {x : Str} {ps : List Str} {sp : Sp} {e : Expr} {es : List Expr} {t : TA} {p pos : Pos} (c : Kmk X.prog X.w X.K X.mg X.base C k ps sp) (hm : X.mg x = some (.ref C)) (hr : Room j X.A) (ha : PA X (e :: es) t) (hk : k + 1 ≤ j := by decide) (hg : Gl X x := by rfl)
    (hdb : (x == ("__debug__" : Str)) = false := by decide) (he : starEach (e :: es) X.env = (false, eval e X.env) :: starEach es X.env := by rfl) (hpl : (backTo pos (starEach es X.env)).any (·.1) = false := by rfl) :
    PE X (.Call (.Name x p) (e :: es) [] pos) (tMake C sp [] E0 t) := by
  obtain ⟨f, fd, M, F, b⟩ := c.ex
  exact pe_make M F (hr.mono hk) hg hm b .nil pass0 ha hdb he hpl
end Ow
/-! zip and enumerate over lists and tuples, in any mixture: a flag tells which -/
namespace Zg
open PySem PySem.Spec PyProof.Rows L2 Ow
/-- the items at l: of a tuple (true) or of a list (false) -/
def Sq1 : Bool → Heap → Addr → Array Value → Prop
  | true, h, l, xs => h.IsTuple l xs
  | false, h, l, xs => h.IsList l xs
/-- the iterator it of l, at turn k -/
def It1 : Bool → Heap → Addr → Addr → Nat → Prop
  | true, h, i, l, k => h.IsTupleIter i l k
  | false, h, i, l, k => h.IsListIter i l k
def nmIt : Bool → String
  | true => "tuple_iterator"
  | false => "list_iterator"
/-- a new iterator of l -/
def itOb (t : Bool) (l : Addr) : Obj := { cls := .type (nmIt t), data := .fields #[.ref l, .int 0 0] }
theorem It1.keep {t : Bool} {h h' : Heap} {i l : Addr} {k : Nat} (g : It1 t h i l k) (e : ∀ o, h.get? i = some o → h'.get? i = some o) : It1 t h' i l k := by
  cases t
  · exact Heap.IsListIter.at g e
  · exact Heap.IsTupleIter.at g e
theorem Sq1.keep {t : Bool} {h h' : Heap} {l : Addr} {xs : Array Value} (g : Sq1 t h l xs) (e : ∀ o, h.get? l = some o → h'.get? l = some o) : Sq1 t h' l xs := by
  cases t
  · exact Heap.IsList.at g e
  · obtain ⟨o, a, b⟩ := g
    exact ⟨o, e o a, b⟩
theorem It1.ob {t : Bool} {h : Heap} {i l : Addr} {k : Nat} (g : It1 t h i l k) : ∃ o, h.get? i = some o ∧ o.data = .fields #[.ref l, rawInt k] := by
  cases t
  · obtain ⟨o, a, _, b⟩ := g
    exact ⟨o, a, b⟩
  · obtain ⟨o, a, _, b⟩ := g
    exact ⟨o, a, b⟩
theorem It1.lt {t : Bool} {h : Heap} {i l : Addr} {k : Nat} (g : It1 t h i l k) : i < h.objs.size := by
  obtain ⟨o, a, _⟩ := g.ob
  exact Heap.lt_size a
theorem It1.new {t : Bool} {h : Heap} {i l : Addr} (e : h.get? i = some (itOb t l)) : It1 t h i l 0 := by
  cases t
  · exact ⟨_, e, rfl, rfl⟩
  · exact ⟨_, e, rfl, rfl⟩
section
variable {prog : Program} {w : World} {A : Around} {E : Value → Shared → Prop} {s : Shared}
theorem draw {t : Bool} {i l : Addr} {k : Nat} {xs : Array Value} {x : Value} {Q : Value → Shared → Prop} (g : It1 t s.heap i l k) (f : Sq1 t s.heap l xs) (e : xs[k]? = some x)
    (q : ∀ h', It1 t h' i l (k + 1) → Heap.SameBut i s.heap h' → Q x { s with heap := h' }) : wpAny (model prog w) A (Builtin.SmallTypes.nextOf (.ref i)) Q E s := by
  cases t
  · exact wpAny_nextOf_list_item g f e q
  · exact RZ.nextOf_tuple_item g f e q
theorem drawEnd {t : Bool} {i l : Addr} {k : Nat} {xs : Array Value} {Q : Value → Shared → Prop} (hh : A.handled = none) (g : It1 t s.heap i l k) (f : Sq1 t s.heap l xs) (e : xs[k]? = none)
    (q : ∀ h' u, Heap.ExtBut i s.heap h' → (∃ o, h'.get? u = some o ∧ o.cls = .type "StopIteration") → E (.ref u) { s with heap := h' }) : wpAny (model prog w) A (Builtin.SmallTypes.nextOf (.ref i)) Q E s := by
  cases t
  · exact wpAny_nextOf_list_end hh g f e q
  · exact RZ.nextOf_tuple_end hh g f e q
theorem iter1 {t : Bool} {l : Addr} {xs : Array Value} {Q : Value → Shared → Prop} (f : Sq1 t s.heap l xs) (q : Q (.ref s.heap.objs.size) { s with heap := s.heap.push (itOb t l) }) : wpAny (model prog w) A (pyIter (.ref l)) Q E s := by
  cases t
  · exact wpAny_pyIter_list f q
  · exact wpAny_pyIter_tuple f q
/-! ### zip -/
theorem zg_item {t u : Bool} {z TI TO i1 i2 l1 l2 : Addr} {k1 k2 : Nat} {xs ys : Array Value} {x y a b : Value} {Q : Value → Shared → Prop} (D : ZipApart z TI TO i1 i2 l1 l2) (hz : IsZip s.heap z TI TO .none) (hTI : IsPair s.heap TI (.ref i1) (.ref i2)) (hTO : IsPair s.heap TO a b)
    (g1 : It1 t s.heap i1 l1 k1) (g2 : It1 u s.heap i2 l2 k2) (f1 : Sq1 t s.heap l1 xs) (f2 : Sq1 u s.heap l2 ys) (hx : xs[k1]? = some x) (hy : ys[k2]? = some y)
    (hQ : ∀ h', IsZip h' z TI TO (rawInt s.heap.objs.size) → IsPair h' TO x y → It1 t h' i1 l1 (k1 + 1) → It1 u h' i2 l2 (k2 + 1) → IsPair h' s.heap.objs.size x y → h'.objs.size = s.heap.objs.size + 1 → (∀ c o, c ≠ z → c ≠ TO → c ≠ i1 → c ≠ i2 → s.heap.get? c = some o → h'.get? c = some o) → Q (.ref s.heap.objs.size) { s with heap := h' }) :
    wpAny (model prog w) A (Builtin.«zip.__next__» ⟨[.ref z], []⟩) (fun fin s' => ∃ v, fin = .done (.ret v) ∧ Q v s') E s := by
  show wpAny _ _ (field (.ref z) 2 >>= _) _ _ _
  refine wpAny_bind (wpAny_field hz rfl (x := .bool false) rfl (?_ : wpAny _ _ (field (.ref z) 3 >>= _) _ _ _))
  refine wpAny_bind (wpAny_field hz rfl (x := .ref TI) rfl (wpAny_bind (wpAny_seqItems hTI rfl (?_ : wpAny _ _ (Builtin.SmallTypes.ownedTupleIsFree (.ref z) >>= _) _ _ _))))
  refine wpAny_bind ?_
  unfold Builtin.SmallTypes.ownedTupleIsFree
  refine wpAny_bind (wpAny_field hz rfl (x := .none) rfl (wpAny_pure ?_))
  simp only [if_true]
  refine wpAny_bind (wpAny_rule (wpAny_bind (wpAny_field hz rfl (x := .ref TO) rfl (wpAny_bind (wpAny_setField_rec hz (by simp) fun ha za sa => ?_)))))
  replace za : IsZip ha z TI TO .ellipsis := za
  refine wpAny_bind ?_
  simp only [List.zipIdx_cons, List.zipIdx_nil, List.forIn_cons, List.forIn_nil]
  refine wpAny_bind (wpAny_bind (wpAny_onRaise (?_ : wpAny _ _ (Builtin.SmallTypes.nextOf (.ref i1) >>= _) _ _ _)))
  refine wpAny_bind (draw (g1.keep fun o => sa.extBut _ o D.i1z) (f1.keep fun o => sa.extBut _ o D.l1z) hx fun hb gb sb => wpAny_pure ?_)
  have pb : IsPair hb TO a b := sb.extBut _ _ D.TOi1 (sa.extBut _ _ D.TOz hTO)
  refine wpAny_bind (wpAny_seqItems pb rfl (wpAny_bind (wpAny_updateSeq_pair pb fun hc pc sc => ?_)))
  replace pc : IsPair hc TO x b := pc
  refine wpAny_bind (wpAny_letGo (wpAny_pure ?_))
  refine wpAny_bind (wpAny_bind (wpAny_onRaise (?_ : wpAny _ _ (Builtin.SmallTypes.nextOf (.ref i2) >>= _) _ _ _)))
  refine wpAny_bind (draw (g2.keep fun o e => sc.extBut _ o D.TOi2.symm (sb.extBut _ o D.i12.symm (sa.extBut _ o D.i2z e))) (f2.keep fun o e => sc.extBut _ o D.l2TO (sb.extBut _ o D.l2i1 (sa.extBut _ o D.l2z e))) hy fun hd gd sd => wpAny_pure ?_)
  have pd : IsPair hd TO x b := sd.extBut _ _ D.TOi2 pc
  refine wpAny_bind (wpAny_seqItems pd rfl (wpAny_bind (wpAny_updateSeq_pair pd fun he pe se => ?_)))
  replace pe : IsPair he TO x y := pe
  refine wpAny_bind (wpAny_letGo (wpAny_pure (wpAny_pure ?_)))
  refine wpAny_bind (wpAny_seqItems pe rfl (wpAny_bind (wpAny_newTuple ?_)))
  have n5 : he.objs.size = s.heap.objs.size := by rw [se.1, sd.1, sc.1, sb.1, sa.1]
  have ze : IsZip he z TI TO .ellipsis := se.extBut _ _ D.TOz.symm (sd.extBut _ _ D.i2z.symm (sc.extBut _ _ D.TOz.symm (sb.extBut _ _ D.i1z.symm za)))
  have ke : ∀ c o, c ≠ z → c ≠ TO → c ≠ i1 → c ≠ i2 → s.heap.get? c = some o → he.get? c = some o := fun c o c1 c2 c3 c4 e => se.extBut _ _ c2 (sd.extBut _ _ c4 (sc.extBut _ _ c2 (sb.extBut _ _ c3 (sa.extBut _ _ c1 e))))
  have g1e : It1 t he i1 l1 (k1 + 1) := gb.keep fun o e => se.extBut _ o D.TOi1.symm (sd.extBut _ o D.i12 (sc.extBut _ o D.TOi1.symm e))
  have g2e : It1 u he i2 l2 (k2 + 1) := gd.keep fun o e => se.extBut _ o D.TOi2.symm e
  have zlt : z < he.objs.size := Heap.lt_size ze
  show wpAny _ _ (Builtin.SmallTypes.ownedTupleHandOut (.ref z) (.ref he.objs.size) >>= _) _ _ _
  refine wpAny_bind ?_
  unfold Builtin.SmallTypes.ownedTupleHandOut
  have z6 : IsZip (he.push { cls := .type "tuple", data := .seq #[x, y] }) z TI TO .ellipsis := Heap.get?_push_of_some _ ze
  refine wpAny_bind (wpAny_setField_rec z6 (by simp) fun h7 z7 s7 => ?_)
  replace z7 : IsZip h7 z TI TO (rawInt he.objs.size) := z7
  refine wpAny_setField_rec z7 (by simp) fun h8 z8 s8 => ?_
  replace z8 : IsZip h8 z TI TO (rawInt he.objs.size) := z8
  have up : ∀ c o, c ≠ z → he.get? c = some o → h8.get? c = some o := fun c o c1 e => s8.extBut _ _ c1 (s7.extBut _ _ c1 (Heap.get?_push_of_some _ e))
  have t8 : IsPair h8 he.objs.size x y := s8.extBut _ _ (Nat.ne_of_gt zlt) (s7.extBut _ _ (Nat.ne_of_gt zlt) (Heap.get?_push_size _ rfl))
  have n8 : h8.objs.size = he.objs.size + 1 := by rw [s8.1, s7.1, Heap.size_push]
  rw [n5] at z8 t8 n8
  refine wpAny_pure ⟨_, rfl, (?_ : Q (.ref he.objs.size) _)⟩
  rw [n5]
  exact hQ h8 z8 (up _ _ D.TOz pe) (g1e.keep fun o e => up _ o D.i1z e) (g2e.keep fun o e => up _ o D.i2z e) t8 n8 fun c o c1 c2 c3 c4 e => up c o c1 (ke c o c1 c2 c3 c4 e)
theorem zg_end {t u : Bool} {z TI TO i1 i2 l1 l2 : Addr} {k1 k2 : Nat} {xs ys : Array Value} {a b : Value} {Q : Fin → Shared → Prop} (hh : A.handled = none) (D : ZipApart z TI TO i1 i2 l1 l2) (hz : IsZip s.heap z TI TO .none) (hTI : IsPair s.heap TI (.ref i1) (.ref i2)) (hTO : IsPair s.heap TO a b)
    (g1 : It1 t s.heap i1 l1 k1) (g2 : It1 u s.heap i2 l2 k2) (f1 : Sq1 t s.heap l1 xs) (f2 : Sq1 u s.heap l2 ys) (hend : xs[k1]? = none ∨ ys[k2]? = none)
    (hE : ∀ h' e, (∀ c o, c ≠ z → c ≠ TO → c ≠ i1 → c ≠ i2 → s.heap.get? c = some o → h'.get? c = some o) → (∃ o, h'.get? e = some o ∧ o.cls = .type "StopIteration") → E (.ref e) { s with heap := h' }) :
    wpAny (model prog w) A (Builtin.«zip.__next__» ⟨[.ref z], []⟩) Q E s := by
  show wpAny _ _ (field (.ref z) 2 >>= _) _ _ _
  refine wpAny_bind (wpAny_field hz rfl (x := .bool false) rfl (?_ : wpAny _ _ (field (.ref z) 3 >>= _) _ _ _))
  refine wpAny_bind (wpAny_field hz rfl (x := .ref TI) rfl (wpAny_bind (wpAny_seqItems hTI rfl (?_ : wpAny _ _ (Builtin.SmallTypes.ownedTupleIsFree (.ref z) >>= _) _ _ _))))
  refine wpAny_bind ?_
  unfold Builtin.SmallTypes.ownedTupleIsFree
  refine wpAny_bind (wpAny_field hz rfl (x := .none) rfl (wpAny_pure ?_))
  simp only [if_true]
  refine wpAny_bind (wpAny_rule (wpAny_bind (wpAny_field hz rfl (x := .ref TO) rfl (wpAny_bind (wpAny_setField_rec hz (by simp) fun ha za sa => ?_)))))
  replace za : IsZip ha z TI TO .ellipsis := za
  refine wpAny_bind ?_
  simp only [List.zipIdx_cons, List.zipIdx_nil, List.forIn_cons, List.forIn_nil]
  refine wpAny_bind (wpAny_bind (wpAny_onRaise (?_ : wpAny _ _ (Builtin.SmallTypes.nextOf (.ref i1) >>= _) _ _ _)))
  cases hx : xs[k1]? with
  | none =>
    refine wpAny_bind (drawEnd hh (g1.keep fun o => sa.extBut _ o D.i1z) (f1.keep fun o => sa.extBut _ o D.l1z) hx fun hb e sb he => ?_)
    obtain ⟨oe, eo, ec⟩ := he
    have zb : IsZip hb z TI TO .ellipsis := sb _ _ D.i1z.symm za
    have ez : e ≠ z := fun x => by subst x; rw [zb] at eo; cases eo; simp at ec
    exact wpAny_setField_rec zb (by simp) fun hc _ sc => hE hc e (fun c o c1 _ c3 _ x => sc.extBut _ _ c1 (sb _ _ c3 (sa.extBut _ _ c1 x))) ⟨oe, sc.extBut _ _ ez eo, ec⟩
  | some x =>
    have hy : ys[k2]? = none := by rcases hend with h | h; rw [hx] at h; cases h; exact h
    refine wpAny_bind (draw (g1.keep fun o => sa.extBut _ o D.i1z) (f1.keep fun o => sa.extBut _ o D.l1z) hx fun hb gb sb => wpAny_pure ?_)
    have pb : IsPair hb TO a b := sb.extBut _ _ D.TOi1 (sa.extBut _ _ D.TOz hTO)
    refine wpAny_bind (wpAny_seqItems pb rfl (wpAny_bind (wpAny_updateSeq_pair pb fun hc pc sc => ?_)))
    refine wpAny_bind (wpAny_letGo (wpAny_pure ?_))
    refine wpAny_bind (wpAny_bind (wpAny_onRaise (?_ : wpAny _ _ (Builtin.SmallTypes.nextOf (.ref i2) >>= _) _ _ _)))
    refine wpAny_bind (drawEnd hh (g2.keep fun o e => sc.extBut _ o D.TOi2.symm (sb.extBut _ o D.i12.symm (sa.extBut _ o D.i2z e))) (f2.keep fun o e => sc.extBut _ o D.l2TO (sb.extBut _ o D.l2i1 (sa.extBut _ o D.l2z e))) hy fun hd e sd he => ?_)
    obtain ⟨oe, eo, ec⟩ := he
    have zd : IsZip hd z TI TO .ellipsis := sd _ _ D.i2z.symm (sc.extBut _ _ D.TOz.symm (sb.extBut _ _ D.i1z.symm za))
    have ez : e ≠ z := fun x => by subst x; rw [zd] at eo; cases eo; simp at ec
    exact wpAny_setField_rec zd (by simp) fun hf _ sf => hE hf e (fun c o c1 c2 c3 c4 x => sf.extBut _ _ c1 (sd _ _ c4 (sc.extBut _ _ c2 (sb.extBut _ _ c3 (sa.extBut _ _ c1 x))))) ⟨oe, sf.extBut _ _ ez eo, ec⟩
theorem zg_next {t u : Bool} {z TI TO i1 i2 l1 l2 : Addr} {k1 k2 : Nat} {xs ys : Array Value} {x y a b : Value} {Q : Option Value → Shared → Prop} (D : ZipApart z TI TO i1 i2 l1 l2) (hz : IsZip s.heap z TI TO .none) (hTI : IsPair s.heap TI (.ref i1) (.ref i2)) (hTO : IsPair s.heap TO a b)
    (g1 : It1 t s.heap i1 l1 k1) (g2 : It1 u s.heap i2 l2 k2) (f1 : Sq1 t s.heap l1 xs) (f2 : Sq1 u s.heap l2 ys) (hx : xs[k1]? = some x) (hy : ys[k2]? = some y)
    (hQ : ∀ h', IsZip h' z TI TO (rawInt s.heap.objs.size) → IsPair h' TO x y → It1 t h' i1 l1 (k1 + 1) → It1 u h' i2 l2 (k2 + 1) → IsPair h' s.heap.objs.size x y → h'.objs.size = s.heap.objs.size + 1 → (∀ c o, c ≠ z → c ≠ TO → c ≠ i1 → c ≠ i2 → s.heap.get? c = some o → h'.get? c = some o) → Q (some (.ref s.heap.objs.size)) { s with heap := h' }) :
    wpAny (model prog w) A (pyNext (.ref z)) Q E s := by
  have T : s.TypeIs (.ref z) "zip" := ⟨_, hz, rfl⟩
  unfold pyNext
  exact wpAny_bind (wpAny_attempt (wpAny_callSpecial?_slot (name := Str.ofString "__next__") T F.slot_zip_next (wpAny_call_entry F.slot_zip_next T F.entry_zip_next
      (zg_item D hz hTI hTO g1 g2 f1 f2 hx hy fun h' a1 a2 a3 a4 a5 a6 a7 => wpAny_pure (hQ h' a1 a2 a3 a4 a5 a6 a7)) (F.args_zip_next_1 _))))
theorem zg_none {t u : Bool} {z TI TO i1 i2 l1 l2 : Addr} {k1 k2 : Nat} {xs ys : Array Value} {a b : Value} {Q : Option Value → Shared → Prop} (hh : A.handled = none) (D : ZipApart z TI TO i1 i2 l1 l2) (hz : IsZip s.heap z TI TO .none) (hTI : IsPair s.heap TI (.ref i1) (.ref i2)) (hTO : IsPair s.heap TO a b)
    (g1 : It1 t s.heap i1 l1 k1) (g2 : It1 u s.heap i2 l2 k2) (f1 : Sq1 t s.heap l1 xs) (f2 : Sq1 u s.heap l2 ys) (hend : xs[k1]? = none ∨ ys[k2]? = none)
    (hQ : ∀ h', (∀ c o, c ≠ z → c ≠ TO → c ≠ i1 → c ≠ i2 → s.heap.get? c = some o → h'.get? c = some o) → Q none { s with heap := h' }) : wpAny (model prog w) A (pyNext (.ref z)) Q E s := by
  have T : s.TypeIs (.ref z) "zip" := ⟨_, hz, rfl⟩
  unfold pyNext
  refine wpAny_bind (wpAny_attempt (wpAny_callSpecial?_slot (name := Str.ofString "__next__") T F.slot_zip_next (wpAny_call_entry F.slot_zip_next T F.entry_zip_next (zg_end hh D hz hTI hTO g1 g2 f1 f2 hend fun h' e hk he => ?_) (F.args_zip_next_1 _))))
  obtain ⟨o, eo, ec⟩ := he
  exact wpAny_bind (wpAny_isInstance (T := "StopIteration") (b := true) ⟨o, eo, ec⟩ isSubtype_stop (wpAny_pure (hQ _ hk)))
end
abbrev zgA (t : Bool) (h : Heap) (l1 : Addr) : Heap := h.push (itOb t l1)
abbrev zgB (t u : Bool) (h : Heap) (l1 l2 : Addr) : Heap := (zgA t h l1).push (itOb u l2)
abbrev zgC (t u : Bool) (h : Heap) (l1 l2 : Addr) : Heap := (zgB t u h l1 l2).push { cls := .type "tuple", data := .seq #[.ref h.objs.size, .ref (zgA t h l1).objs.size] }
abbrev zgD (t u : Bool) (h : Heap) (l1 l2 : Addr) : Heap := (zgC t u h l1 l2).push { cls := .type "tuple", data := .seq #[.none, .none] }
abbrev zgE (t u : Bool) (h : Heap) (l1 l2 : Addr) : Heap := (zgD t u h l1 l2).push { cls := .type "zip", data := .fields #[.none, .bool false, .bool false, .ref (zgB t u h l1 l2).objs.size, .ref (zgC t u h l1 l2).objs.size] }
theorem zg_new (t u : Bool) (l1 l2 : Addr) (xs ys : Array Value) : Meets (Builtin.«zip.__new__» ⟨[.type "zip", .ref l1, .ref l2], []⟩) (fun _ R s => Sq1 t s.heap l1 xs ∧ Sq1 u s.heap l2 ys ∧
      R (.ok (.ret (.ref (zgD t u s.heap l1 l2).objs.size))) { s with heap := zgE t u s.heap l1 l2 }) :=
  .of_wp fun prog w A R s h => by
    obtain ⟨hp, g, d, tk, os⟩ := s
    obtain ⟨f1, f2, h⟩ := h
    have hsub := sub_zip
    have e1 : Sq1 t (Shared.heap ⟨hp, g, d, tk, os⟩) l1 xs := f1
    have e2 : Sq1 u (Shared.heap ⟨hp.push (itOb t l1), g, d, tk, os⟩) l2 ys := f2.keep fun o e => Heap.get?_push_of_some _ e
    wp_walk using iter1 e1, iter1 e2
    exact ⟨_, rfl, h⟩
section
variable {prog : Program} {w : World} {A : Around} {E : Value → Shared → Prop} {s : Shared}
theorem zg_call {t u : Bool} {l1 l2 : Addr} {xs ys : Array Value} {Q : Value → Shared → Prop} (f1 : Sq1 t s.heap l1 xs) (f2 : Sq1 u s.heap l2 ys)
    (h : ∀ h', IsZip h' (s.heap.objs.size + 4) (s.heap.objs.size + 2) (s.heap.objs.size + 3) .none → IsPair h' (s.heap.objs.size + 2) (.ref s.heap.objs.size) (.ref (s.heap.objs.size + 1)) → IsPair h' (s.heap.objs.size + 3) .none .none → It1 t h' s.heap.objs.size l1 0 → It1 u h' (s.heap.objs.size + 1) l2 0 → h'.objs.size = s.heap.objs.size + 5 →
      (∀ c o, s.heap.get? c = some o → h'.get? c = some o) → Q (.ref (s.heap.objs.size + 4)) { s with heap := h' }) : wpAny (model prog w) A (call (.type "zip") [.ref l1, .ref l2]) Q E s := by
  refine callType_new F.called_zip (by decide) (F.typeCall_zip_2 _ _) (F.newCall_zip_2 _ _) (fun obj => F.args_object_init_3 obj _ _) F.entry_zip_new (zg_new t u l1 l2 xs ys) ⟨f1, f2, ?_⟩
  have n1 : (zgA t s.heap l1).objs.size = s.heap.objs.size + 1 := Heap.size_push ..
  have n2 : (zgB t u s.heap l1 l2).objs.size = s.heap.objs.size + 2 := by rw [Heap.size_push, n1]
  have n3 : (zgC t u s.heap l1 l2).objs.size = s.heap.objs.size + 3 := by rw [Heap.size_push, n2]
  have n4 : (zgD t u s.heap l1 l2).objs.size = s.heap.objs.size + 4 := by rw [Heap.size_push, n3]
  have n5 : (zgE t u s.heap l1 l2).objs.size = s.heap.objs.size + 5 := by rw [Heap.size_push, n4]
  have up : ∀ {h : Heap} {c : Addr} {o v : Obj}, h.get? c = some o → (h.push v).get? c = some o := fun e => Heap.get?_push_of_some _ e
  have m5 : (zgE t u s.heap l1 l2).get? (zgD t u s.heap l1 l2).objs.size = some _ := Heap.get?_push_size _ rfl
  have m4 : (zgE t u s.heap l1 l2).get? (zgC t u s.heap l1 l2).objs.size = some _ := up (Heap.get?_push_size _ rfl)
  have m3 : (zgE t u s.heap l1 l2).get? (zgB t u s.heap l1 l2).objs.size = some _ := up (up (Heap.get?_push_size _ rfl))
  have m2 : (zgE t u s.heap l1 l2).get? (zgA t s.heap l1).objs.size = some (itOb u l2) := up (up (up (Heap.get?_push_size _ rfl)))
  have m1 : (zgE t u s.heap l1 l2).get? s.heap.objs.size = some (itOb t l1) := up (up (up (up (Heap.get?_push_size _ rfl))))
  show _ ∧ _
  rw [n2, n3, n4] at m5
  rw [n1, n2] at m3
  rw [n3] at m4
  rw [n1] at m2
  rw [n4]
  exact ⟨⟨_, m5, rfl⟩, h _ m5 m3 m4 (.new m1) (.new m2) n5 fun c o x => up (up (up (up (up x))))⟩
end
/-! ### as rules of the hand layer -/
/-- the items at a by the heap's account: of a tuple (true) or a list -/
def SqB (K : PySem.W.Frag) : Bool → Hp → Addr → List V → Prop
  | true, H, a, xs => SqT K H a xs
  | false, H, a, xs => SqL K H a xs
theorem SqB.same {K : PySem.W.Frag} {t : Bool} {H H' : Hp} {a : Addr} {xs : List V} (s : Same H H') (h : SqB K t H a xs) : SqB K t H' a xs := by
  cases t
  · exact s.seq h
  · exact sqt_same s h
theorem sqb_heap {X : Cx} {pins : List (Addr × Obj)} {σ : L2.St} {H : Hp} {s : Shared} {t : Bool} {a : Addr} {xs : List V} (I : Inv X pins σ H s) (h : SqB X.K t H a xs) : ∃ its : List Value, Vals xs its ∧ Sq1 t s.heap a its.toArray ∧ a < s.heap.objs.size := by
  cases t
  · obtain ⟨its, r, p, _⟩ := I.list h
    exact ⟨its, r, p.isList, p.lt⟩
  · obtain ⟨its, r, p, _⟩ := I.tuple h
    obtain ⟨o, e, _⟩ := id p
    exact ⟨its, r, p, Heap.lt_size e⟩
theorem sqb_inj {X : Cx} {pins : List (Addr × Obj)} {σ : L2.St} {H : Hp} {s : Shared} {t : Bool} {a : Addr} {xs ys : List V} (I : Inv X pins σ H s) (h : SqB X.K t H a xs) (h' : SqB X.K t H a ys) : xs = ys := by
  cases t
  · exact I.list_inj h h'
  · exact I.tuple_inj h h'
def ItzG (K : PySem.W.Frag) (t u : Bool) (a b : Addr) : It :=
  ⟨fun i H => ∃ (xs ys : List V) (x y : V), SqB K t H a xs ∧ SqB K u H b ys ∧ xs[i]? = some x ∧ ys[i]? = some y,
    fun i H v H' => ∃ T x y, v = .ref T ∧ H T = none ∧ H' = upd H T (.tup [x, y]) ∧ (∀ xs, SqB K t H a xs → xs[i]? = some x) ∧ ∀ ys, SqB K u H b ys → ys[i]? = some y,
    fun i H => ∃ xs ys : List V, SqB K t H a xs ∧ SqB K u H b ys ∧ (xs.length ≤ i ∨ ys.length ≤ i)⟩
theorem turnG {P : Program} {w : World} {K : PySem.W.Frag} {elts : List Expr} {kk : Nat} {tpos : Pos} {t u : Bool} {a b z TI TO i1 i2 : Addr} (D : ZipApart z TI TO i1 i2 a b) :
    Turn P w K (.Tuple elts kk tpos) (ItzG K t u a b) [z, TI, TO, i1, i2] z (fun i h => IsZip h z TI TO .none ∧ IsPair h TI (.ref i1) (.ref i2) ∧ (∃ x y, IsPair h TO x y) ∧ It1 t h i1 a i ∧ It1 u h i2 b i) where
  mem := by simp
  obj := fun i h st c hc => by
    obtain ⟨hz, hTI, ⟨x, y, hTO⟩, g1, g2⟩ := st
    obtain ⟨o1, e1, d1⟩ := g1.ob
    obtain ⟨o2, e2, d2⟩ := g2.ob
    have e' : c = z ∨ c = TI ∨ c = TO ∨ c = i1 ∨ c = i2 := by simpa using hc
    rcases e' with q | q | q | q | q
    · rw [q]; exact ⟨_, hz, fun v e => nomatch e⟩
    · rw [q]; exact ⟨_, hTI, fun v e => nomatch e⟩
    · rw [q]; exact ⟨_, hTO, fun v e => nomatch e⟩
    · exact ⟨o1, by rw [q]; exact e1, fun v q => by rw [d1] at q; cases q⟩
    · exact ⟨o2, by rw [q]; exact e2, fun v q => by rw [d2] at q; cases q⟩
  keep := fun i h h' st k => by
    obtain ⟨hz, hTI, ⟨x, y, hTO⟩, g1, g2⟩ := st
    exact ⟨k z (by simp) _ hz, k TI (by simp) _ hTI, ⟨x, y, k TO (by simp) _ hTO⟩, g1.keep fun o q => k i1 (by simp) o q, g2.keep fun o q => k i2 (by simp) o q⟩
  item := by
    intro X hP hw hK hc i pins s σ H E I hf st hg
    subst hP hw hK
    obtain ⟨hz, hTI, ⟨x0, y0, hTO⟩, g1, g2⟩ := st
    obtain ⟨xs, ys, x, y, qx, qy, hx, hy⟩ := hg
    obtain ⟨it1, r1, p1, _⟩ := sqb_heap I qx
    obtain ⟨it2, r2, p2, _⟩ := sqb_heap I qy
    obtain ⟨v1, hv1, rv1⟩ := r1.get hx
    obtain ⟨v2, hv2, rv2⟩ := r2.get hy
    have zl : z < s.heap.objs.size := Heap.lt_size hz
    refine zg_next D hz hTI hTO g1 g2 p1 p2 (x := v1) (y := v2) (by simpa using hv1) (by simpa using hv2) fun h' z' TO' k1 k2 hT hsz hk => ⟨_, rfl, wpAny_letOwnedTupleGo_zip (s := { s with heap := h' }) z' fun h'' z'' sb => ?_⟩
    have hT2 : h''.get? s.heap.objs.size = some { cls := .type "tuple", data := .seq #[v1, v2] } := (sb.2 _ (Nat.ne_of_gt zl)).trans hT
    have new : ObjOk X.prog X.w (upd H s.heap.objs.size (.tup [x, y])) h'' s.heap.objs.size (.tup [x, y]) := ⟨by show 2 ≤ sizeLine; decide, [v1, v2], .cons rv1 (.cons rv2 .nil), ⟨_, hT2, rfl, _, rfl⟩⟩
    have I1 : Inv X pins σ (upd H s.heap.objs.size (.tup [x, y])) { s with heap := h'' } := I.turnedNew (t' := s.toks) (ch := [z, TI, TO, i1, i2]) (fun c o hb q => (sb.2 c (fun q' => hb (by simp [q']))).trans (hk c o (fun q' => hb (by simp [q'])) (fun q' => hb (by simp [q'])) (fun q' => hb (by simp [q'])) (fun q' => hb (by simp [q'])) q)) hf (Nat.le_refl _) new
    refine ⟨.ref s.heap.objs.size, _, I1, rfl, ⟨_, x, y, rfl, I.hok.fresh (Nat.le_refl _), rfl, fun l hl => by rw [sqb_inj I hl qx]; exact hx, fun l hl => by rw [sqb_inj I hl qy]; exact hy⟩,
      ⟨z'', (sb.2 _ D.TIz).trans (hk _ _ D.TIz D.TITO D.TIi1 D.TIi2 hTI), ⟨v1, v2, (sb.2 _ D.TOz).trans TO'⟩, k1.keep fun o q => (sb.2 _ D.i1z).trans q, k2.keep fun o q => (sb.2 _ D.i2z).trans q⟩, fun c hcm => ?_⟩
    have hlt : c < s.heap.objs.size := by
      have e' : c = z ∨ c = TI ∨ c = TO ∨ c = i1 ∨ c = i2 := by simpa using hcm
      rcases e' with q | q | q | q | q <;> rw [q]
      · exact zl
      · exact Heap.lt_size hTI
      · exact Heap.lt_size hTO
      · exact g1.lt
      · exact g2.lt
    rw [upd_ne (Nat.ne_of_lt hlt)]
    exact (hf c hcm).1
  done := by
    intro X hP hw hK hc i pins s σ H E I hf st hg
    subst hP hw hK
    obtain ⟨hz, hTI, ⟨x0, y0, hTO⟩, g1, g2⟩ := st
    obtain ⟨xs, ys, qx, qy, hend⟩ := hg
    obtain ⟨it1, r1, p1, _⟩ := sqb_heap I qx
    obtain ⟨it2, r2, p2, _⟩ := sqb_heap I qy
    have l1 := r1.length
    have l2 := r2.length
    have he : it1.toArray[i]? = none ∨ it2.toArray[i]? = none := by
      rcases hend with q | q
      · exact .inl (by simp; omega)
      · exact .inr (by simp; omega)
    exact zg_none (I.ok.hd hc) D hz hTI hTO g1 g2 p1 p2 he fun h' hk => ⟨rfl, I.turnedL (t' := s.toks) (ch := [z, TI, TO, i1, i2]) (fun c o hb q => hk c o (fun q' => hb (by simp [q'])) (fun q' => hb (by simp [q'])) (fun q' => hb (by simp [q'])) (fun q' => hb (by simp [q'])) q) hf⟩
  self := fun A i s Q E st h => wpAny_pyIter_zip st.1 h
def iZipG (K : PySem.W.Frag) (ta : TA) : TI := fun σ H R => ta σ H fun vs H1 => ∃ (t u : Bool) (a b : Addr) (xs ys : List V), vs = [.ref a, .ref b] ∧ SqB K t H1 a xs ∧ SqB K u H1 b ys ∧ R (ItzG K t u a b) H1
theorem pi_zipG {X : Cx} {K : PySem.W.Frag} (eK : X.K = K) {e e2 : Expr} {ta : TA} {p pos tpos : Pos} {elts : List Expr} {kk : Nat} (hg : Gl X "zip") (hm : X.mg "zip" = none) (ha : PA X [e, e2] ta)
    (hs : starEach [e, e2] X.env = (false, eval e X.env) :: starEach [e2] X.env := by rfl) (hpl : (backTo pos (starEach [e2] X.env)).any (·.1) = false := by rfl) : PI X (.Tuple elts kk tpos) (.Call (.Name "zip" p) [e, e2] [] pos) (iZipG K ta) := by
  subst eK
  refine ⟨fun pins s σ H R I h => ?_⟩
  refine Call_ (ld_blt I hg hm PyProof.Rows.boot_zip (PyProof.Rows.callWith_type1 (thn (ha.run pos pins s σ H _ I h) fun us s1 ⟨vs, H1, I1, r1, q1⟩ => ?_) hs hpl))
  obtain ⟨t, u, a, b, xs, ys, rfl, qx, qy, q⟩ := q1
  cases r1 with
  | cons r rr =>
    cases rr with
    | cons r' rr =>
      cases rr
      cases r
      cases r'
      obtain ⟨it1, v1, p1, lt1⟩ := sqb_heap I1 qx
      obtain ⟨it2, v2, p2, lt2⟩ := sqb_heap I1 qy
      refine zg_call p1 p2 fun h' hz hTI hTO g1 g2 hsz hk => wpAny_pyIter_zip hz ?_
      refine ⟨s1.heap.objs.size + 4, [s1.heap.objs.size + 4, s1.heap.objs.size + 2, s1.heap.objs.size + 3, s1.heap.objs.size, s1.heap.objs.size + 1], _, _, H1, rfl, I1.kept (t' := s1.toks) hk, turnG (PySem.W.ktu_apart s1.heap.objs.size a b lt1 lt2), ⟨hz, hTI, ⟨_, _, hTO⟩, g1, g2⟩, fun c hcm => ?_, q⟩
      have hle : s1.heap.objs.size ≤ c := by
        have e' : c = s1.heap.objs.size + 4 ∨ c = s1.heap.objs.size + 2 ∨ c = s1.heap.objs.size + 3 ∨ c = s1.heap.objs.size ∨ c = s1.heap.objs.size + 1 := by simpa using hcm
        rcases e' with z | z | z | z | z <;> rw [z] <;> omega
      exact I1.fpOk hle (I1.hok.fresh hle)
theorem walkG {K : PySem.W.Frag} {t u : Bool} {a b : Addr} {xs ys : List V} {n : Nat} (hn : n = min xs.length ys.length) : Walk (ItzG K t u a b) n (fun H => SqB K t H a xs ∧ SqB K u H b ys) (YPair (fun i => xs[i]?) (fun i => ys[i]?)) := by
  subst hn
  refine ⟨fun i _ hi q => ⟨xs, ys, xs[i]'(by omega), ys[i]'(by omega), q.1, q.2, List.getElem?_eq_getElem _, List.getElem?_eq_getElem _⟩, fun _ q => ⟨xs, ys, q.1, q.2, by omega⟩, fun i H v H' _ q y => ?_⟩
  obtain ⟨T, x, z, h1, h2, h3, h4, h5⟩ := y
  exact ⟨T, x, z, h1, h2, h3, h4 xs q.1, h5 ys q.2⟩
/-! ### enumerate -/
section
variable {prog : Program} {w : World} {A : Around} {E : Value → Shared → Prop} {s : Shared}
theorem en_item {t : Bool} {e it l : Addr} {i : Nat} {xs : Array Value} {x old : Value} {Q : Value → Shared → Prop} (he : IsEnum s.heap e it i old) (g : It1 t s.heap it l i) (f : Sq1 t s.heap l xs) (hx : xs[i]? = some x) (hne : e ≠ it)
    (hQ : ∀ h', IsEnumOut h' e it ((i : Int) + 1) x s.heap.objs.size → It1 t h' it l (i + 1) → h'.get? s.heap.objs.size = some { cls := .type "tuple", data := .seq #[.int i s.toks, x] } → h'.objs.size = s.heap.objs.size + 1 → (∀ b o, b ≠ e → b ≠ it → s.heap.get? b = some o → h'.get? b = some o) → Q (.ref s.heap.objs.size) { s with heap := h', toks := s.toks + 1 }) :
    wpAny (model prog w) A (Builtin.«enumerate.__next__» ⟨[.ref e], []⟩) (fun fin s' => ∃ v, fin = .done (.ret v) ∧ Q v s') E s := by
  obtain ⟨hp, gl, d, tk, os⟩ := s
  refine (?_ : wpAny _ _ (field (.ref e) 2 >>= _) _ _ _)
  refine wpAny_bind (wpAny_field he rfl (x := .ref it) rfl (wpAny_bind (draw g f hx fun ha ga sa => ?_)))
  replace sa : Heap.SameBut it hp ha := sa
  have ea : IsEnum ha e it i old := (sa.2 e hne).trans he
  refine (?_ : wpAny _ _ (field (.ref e) 3 >>= _) _ _ ⟨ha, gl, d, tk, os⟩)
  refine wpAny_bind (wpAny_field ea rfl (x := rawInt i) rfl (?_ : wpAny _ _ (field (.ref e) 4 >>= _) _ _ ⟨ha, gl, d, tk, os⟩))
  refine wpAny_bind (wpAny_field ea rfl (x := .none) rfl (?_ : wpAny _ _ (mkInt i >>= _) _ _ ⟨ha, gl, d, tk, os⟩))
  refine wpAny_bind (wpAny_mkInt (?_ : wpAny _ _ (setField (.ref e) 3 (rawInt ((i : Int) + 1)) >>= _) _ _ ⟨ha, gl, d, tk + 1, os⟩))
  refine wpAny_bind (wpAny_setField_rec ea (by simp) fun hb eb sb => ?_)
  replace sb : Heap.SameBut e ha hb := sb
  replace eb : IsEnum hb e it ((i : Int) + 1) old := eb
  refine (?_ : wpAny _ _ (setField (.ref e) 4 .none >>= _) _ _ ⟨hb, gl, d, tk + 1, os⟩)
  refine wpAny_bind (wpAny_setField_rec eb (by simp) fun hc ec sc => ?_)
  replace sc : Heap.SameBut e hb hc := sc
  replace ec : IsEnum hc e it ((i : Int) + 1) old := ec
  refine (?_ : wpAny _ _ (newTuple [.int i tk, x] >>= _) _ _ ⟨hc, gl, d, tk + 1, os⟩)
  refine wpAny_bind (wpAny_newTuple ?_)
  have e4 : IsEnum (hc.push { cls := .type "tuple", data := .seq #[.int i tk, x] }) e it ((i : Int) + 1) old := Heap.get?_push_of_some _ ec
  generalize hh4 : hc.push { cls := .type "tuple", data := .seq #[.int i tk, x] } = h4 at e4
  have nz : hc.objs.size = hp.objs.size := by rw [sc.1, sb.1, sa.1]
  have lt : e < hp.objs.size := Heap.lt_size he
  have t4 : h4.get? hp.objs.size = some { cls := .type "tuple", data := .seq #[.int i tk, x] } := by rw [← hh4, ← nz]; exact Heap.get?_push_size _ rfl
  have z4 : h4.objs.size = hp.objs.size + 1 := by rw [← hh4, Heap.size_push, nz]
  have k4 : ∀ b o, b ≠ e → b ≠ it → hp.get? b = some o → h4.get? b = some o := fun b o be bi q => by rw [← hh4]; exact Heap.get?_push_of_some _ (sc.extBut b o be (sb.extBut b o be (sa.extBut b o bi q)))
  have g4 : It1 t h4 it l (i + 1) := by rw [← hh4]; exact ga.keep fun o q => Heap.get?_push_of_some _ (sc.extBut _ o (Ne.symm hne) (sb.extBut _ o (Ne.symm hne) q))
  refine (?_ : wpAny _ _ (Builtin.SmallTypes.ownedTupleIsFree (.ref e) >>= _) _ _ ⟨h4, gl, d, tk + 1, os⟩)
  rw [nz]
  clear hh4 ec sc eb sb ea sa ga nz hc hb ha
  refine wpAny_bind ?_
  unfold Builtin.SmallTypes.ownedTupleIsFree
  refine wpAny_bind (wpAny_field e4 rfl (x := .none) rfl (wpAny_pure ?_))
  simp only [if_true]
  refine wpAny_bind (wpAny_rule (wpAny_bind (wpAny_field e4 rfl (x := old) rfl (wpAny_bind (wpAny_setField_rec e4 (by simp) fun h5 e5 s5 => ?_)))))
  replace s5 : Heap.SameBut e h4 h5 := s5
  replace e5 : IsEnum h5 e it ((i : Int) + 1) x := e5
  refine (?_ : wpAny _ _ (Builtin.SmallTypes.ownedTupleHandOut (.ref e) (.ref hp.objs.size) >>= _) _ _ ⟨h5, gl, d, tk + 1, os⟩)
  refine wpAny_bind ?_
  unfold Builtin.SmallTypes.ownedTupleHandOut
  refine wpAny_bind (wpAny_setField_rec e5 (by simp) fun h6 e6 s6 => ?_)
  replace s6 : Heap.SameBut e h5 h6 := s6
  replace e6 : IsEnumOut h6 e it ((i : Int) + 1) x hp.objs.size := e6
  refine wpAny_setField_rec e6 (by simp) fun h7 e7 s7 => ?_
  replace s7 : Heap.SameBut e h6 h7 := s7
  replace e7 : IsEnumOut h7 e it ((i : Int) + 1) x hp.objs.size := e7
  have up : ∀ b o, b ≠ e → h4.get? b = some o → h7.get? b = some o := fun b o be q => s7.extBut b o be (s6.extBut b o be (s5.extBut b o be q))
  exact wpAny_bind (wpAny_letGo (wpAny_pure ⟨_, rfl, hQ h7 e7 (g4.keep fun o q => up _ o (Ne.symm hne) q) (up _ _ (Nat.ne_of_gt lt) t4) (by rw [s7.1, s6.1, s5.1, z4]) fun b o be bi q => up b o be (k4 b o be bi q)⟩))
theorem en_next {t : Bool} {e it l : Addr} {i : Nat} {xs : Array Value} {x old : Value} {Q : Option Value → Shared → Prop} (he : IsEnum s.heap e it i old) (g : It1 t s.heap it l i) (f : Sq1 t s.heap l xs) (hx : xs[i]? = some x) (hne : e ≠ it)
    (hQ : ∀ h', IsEnumOut h' e it ((i : Int) + 1) x s.heap.objs.size → It1 t h' it l (i + 1) → h'.get? s.heap.objs.size = some { cls := .type "tuple", data := .seq #[.int i s.toks, x] } → h'.objs.size = s.heap.objs.size + 1 → (∀ b o, b ≠ e → b ≠ it → s.heap.get? b = some o → h'.get? b = some o) → Q (some (.ref s.heap.objs.size)) { s with heap := h', toks := s.toks + 1 }) :
    wpAny (model prog w) A (pyNext (.ref e)) Q E s := by
  have T : s.TypeIs (.ref e) "enumerate" := ⟨_, he, rfl⟩
  unfold pyNext
  exact wpAny_bind (wpAny_attempt (wpAny_callSpecial?_slot (name := Str.ofString "__next__") T F.slot_enumerate_next (wpAny_call_entry F.slot_enumerate_next T F.entry_enumerate_next (en_item he g f hx hne fun h' a b c d k => wpAny_pure (hQ h' a b c d k)) (F.args_enumerate_next_1 _))))
theorem en_none {t : Bool} {e it l : Addr} {i : Nat} {xs : Array Value} {old : Value} {Q : Option Value → Shared → Prop} (hh : A.handled = none) (he : IsEnum s.heap e it i old) (g : It1 t s.heap it l i) (f : Sq1 t s.heap l xs) (hx : xs[i]? = none)
    (hQ : ∀ h', Heap.ExtBut it s.heap h' → Q none { s with heap := h' }) : wpAny (model prog w) A (pyNext (.ref e)) Q E s := by
  have T : s.TypeIs (.ref e) "enumerate" := ⟨_, he, rfl⟩
  unfold pyNext
  refine wpAny_bind (wpAny_attempt (wpAny_callSpecial?_slot (name := Str.ofString "__next__") T F.slot_enumerate_next (wpAny_call_entry F.slot_enumerate_next T F.entry_enumerate_next (?_ : wpAny _ _ (field (.ref e) 2 >>= _) _ _ _) (F.args_enumerate_next_1 _))))
  refine wpAny_bind (wpAny_field he rfl (x := .ref it) rfl (wpAny_bind (drawEnd hh g f hx fun h' x he' hx' => ?_)))
  obtain ⟨o, ho, hc⟩ := hx'
  exact wpAny_bind (wpAny_isInstance (T := "StopIteration") (b := true) ⟨o, ho, hc⟩ isSubtype_stop (wpAny_pure (hQ _ he')))
end
theorem en_new (t : Bool) (l : Addr) (xs : Array Value) : Meets (Builtin.«enumerate.__new__» ⟨[.type "enumerate", .ref l], []⟩) (fun _ R s => Sq1 t s.heap l xs ∧
      R (.ok (.ret (.ref (s.heap.push (itOb t l)).objs.size))) { s with heap := (s.heap.push (itOb t l)).push { cls := .type "enumerate", data := .fields #[.none, .bool false, .ref s.heap.objs.size, rawInt 0, .none, .none] } }) :=
  .of_wp fun prog w A R s h => by
    obtain ⟨hp, g, d, tk, os⟩ := s
    obtain ⟨f, h⟩ := h
    have hsub := sub_enumerate
    have f' : Sq1 t (Shared.heap ⟨hp, g, d, tk, os⟩) l xs := f
    have ld : ∃ o : Obj, hp.get? l = some o ∧ (o.cls = .type "list" ∨ o.cls = .type "tuple") := by
      cases t
      · obtain ⟨o, a, b, _⟩ := f
        exact ⟨o, a, .inl b⟩
      · obtain ⟨o, a, b, _⟩ := f
        exact ⟨o, a, .inr b⟩
    obtain ⟨ob, lo, lc⟩ := ld
    wp_walk using AutoSeq1.wpAny_loadPart' lo
    refine wpAny_stack_any fun st => wpAny_pure ?_
    split
    · rename_i c _ _ _ _ _
      cases (c == Value.type "enumerate")
      · wp_walk using AutoSeq1.wpAny_loadPart' lo, iter1 f'
        exact ⟨_, rfl, h⟩
      · wp_walk using AutoSeq1.wpAny_loadPart' lo, iter1 f'
        exact ⟨_, rfl, h⟩
    · wp_walk using AutoSeq1.wpAny_loadPart' lo, iter1 f'
      exact ⟨_, rfl, h⟩
section
variable {prog : Program} {w : World} {A : Around} {E : Value → Shared → Prop} {s : Shared}
theorem en_call {t : Bool} {l : Addr} {xs : Array Value} {Q : Value → Shared → Prop} (f : Sq1 t s.heap l xs)
    (h : ∀ h', IsEnum h' (s.heap.objs.size + 1) s.heap.objs.size 0 .none → It1 t h' s.heap.objs.size l 0 → h'.objs.size = s.heap.objs.size + 2 → (∀ b o, s.heap.get? b = some o → h'.get? b = some o) → Q (.ref (s.heap.objs.size + 1)) { s with heap := h' }) :
    wpAny (model prog w) A (call (.type "enumerate") [.ref l]) Q E s := by
  refine callType_new F.called_enumerate (by decide) (F.typeCall_enumerate_1 _) (F.newCall_enumerate_1 _) (fun obj => F.args_object_init_2 obj _) F.entry_enumerate_new (en_new t l xs) ⟨f, ?_⟩
  have n1 : (s.heap.push (itOb t l)).objs.size = s.heap.objs.size + 1 := Heap.size_push ..
  show _ ∧ _
  rw [n1]
  have m1 : ∀ o : Obj, o.isFreed = false → ((s.heap.push (itOb t l)).push o).get? (s.heap.objs.size + 1) = some o := fun o q => by
    have := Heap.get?_push_size (s.heap.push (itOb t l)) (o := o) q
    rw [n1] at this
    exact this
  have m2 := m1 { cls := .type "enumerate", data := .fields #[.none, .bool false, .ref s.heap.objs.size, rawInt 0, .none, .none] } rfl
  exact ⟨⟨_, m2, rfl⟩, h _ m2 (.new (Heap.get?_push_of_some _ (Heap.get?_push_size _ rfl))) (by rw [Heap.size_push, n1]) fun b o x => Heap.get?_push_of_some _ (Heap.get?_push_of_some _ x)⟩
end
def IteG (K : PySem.W.Frag) (t : Bool) (a : Addr) : It :=
  ⟨fun i H => ∃ (xs : List V) (x : V), SqB K t H a xs ∧ xs[i]? = some x, fun i H v H' => ∃ T x, v = .ref T ∧ H T = none ∧ H' = upd H T (.tup [.int (i : Nat), x]) ∧ ∀ xs, SqB K t H a xs → xs[i]? = some x, fun i H => ∃ xs : List V, SqB K t H a xs ∧ xs.length ≤ i⟩
theorem turnE {P : Program} {w : World} {K : PySem.W.Frag} {elts : List Expr} {kk : Nat} {tpos : Pos} (t : Bool) (a e it : Addr) :
    Turn P w K (.Tuple elts kk tpos) (IteG K t a) [e, it] e (fun i h => (∃ old, IsEnum h e it ((i : Nat) : Int) old) ∧ It1 t h it a i ∧ e ≠ it) where
  mem := by simp
  obj := fun i h st b hb => by
    obtain ⟨⟨old, he⟩, g, _⟩ := st
    obtain ⟨o, ho, hd⟩ := g.ob
    have e' : b = e ∨ b = it := by simpa using hb
    rcases e' with z | z
    · rw [z]; exact ⟨_, he, fun v q => nomatch q⟩
    · rw [z]; exact ⟨o, ho, fun v q => by rw [hd] at q; cases q⟩
  keep := fun i h h' st k => let ⟨⟨old, he⟩, g, hne⟩ := st; ⟨⟨old, k e (by simp) _ he⟩, g.keep fun o q => k it (by simp) o q, hne⟩
  item := by
    intro X hP hw hK hc i pins s σ H E I hf st hg
    subst hP hw hK
    obtain ⟨⟨old, he⟩, g, hne⟩ := st
    obtain ⟨xs, x, hq, hx⟩ := hg
    obtain ⟨its, rv, p, _⟩ := sqb_heap I hq
    obtain ⟨u, hu, ru⟩ := rv.get hx
    have el : e < s.heap.objs.size := Heap.lt_size he
    refine en_next he g p (x := u) (by simpa using hu) hne fun h' ho g' hT hsz hk => ⟨_, rfl, wpAny_letOwnedTupleGo_enum (s := { s with heap := h', toks := s.toks + 1 }) ho fun h'' he' sb => ?_⟩
    have hT2 : h''.get? s.heap.objs.size = some { cls := .type "tuple", data := .seq #[.int i s.toks, u] } := (sb.2 _ (Nat.ne_of_gt el)).trans hT
    have new : ObjOk X.prog X.w (upd H s.heap.objs.size (.tup [.int (i : Nat), x])) h'' s.heap.objs.size (.tup [.int (i : Nat), x]) := ⟨by show 2 ≤ sizeLine; decide, [.int i s.toks, u], .cons ⟨_, rfl⟩ (.cons ru .nil), ⟨_, hT2, rfl, _, rfl⟩⟩
    have I1 : Inv X pins σ (upd H s.heap.objs.size (.tup [.int (i : Nat), x])) { s with heap := h'', toks := s.toks + 1 } := I.turnedNew (ch := [e, it]) (fun b ob hb q => (sb.2 b (fun z => hb (by simp [z]))).trans (hk b ob (fun z => hb (by simp [z])) (fun z => hb (by simp [z])) q)) hf (Nat.le_refl _) new
    have e1 : ((i + 1 : Nat) : Int) = (i : Int) + 1 := by omega
    refine ⟨.ref s.heap.objs.size, _, I1, rfl, ⟨_, x, rfl, I.hok.fresh (Nat.le_refl _), rfl, fun ys hy => by rw [sqb_inj I hy hq]; exact hx⟩, ⟨⟨u, by rw [e1]; exact he'⟩, g'.keep fun o q => (sb.2 it (Ne.symm hne)).trans q, hne⟩, fun b hb => ?_⟩
    have hb' : b < s.heap.objs.size := by
      have e' : b = e ∨ b = it := by simpa using hb
      rcases e' with z | z <;> rw [z]
      · exact el
      · exact g.lt
    rw [upd_ne (Nat.ne_of_lt hb')]
    exact (hf b hb).1
  done := by
    intro X hP hw hK hc i pins s σ H E I hf st hg
    subst hP hw hK
    obtain ⟨⟨old, he⟩, g, hne⟩ := st
    obtain ⟨xs, hq, hx⟩ := hg
    obtain ⟨its, rv, p, _⟩ := sqb_heap I hq
    obtain ⟨f0, f1, f2, f3, f4, f5⟩ := hf it (by simp)
    have hl := rv.length
    exact en_none (I.ok.hd hc) he g p (by simp; omega) fun h' eb => ⟨rfl, I.turned (t' := s.toks) (fun b o hb q => eb b o hb q) f0 f1 f3 f4 f5⟩
  self := fun A i s Q E st h => let ⟨⟨_, he⟩, _⟩ := st; wpAny_pyIter_enum he h
def iEnumG (K : PySem.W.Frag) (ta : TA) : TI := fun σ H R => ta σ H fun vs H1 => ∃ (t : Bool) (a : Addr) (xs : List V), vs = [.ref a] ∧ SqB K t H1 a xs ∧ R (IteG K t a) H1
theorem pi_enumG {X : Cx} {K : PySem.W.Frag} (eK : X.K = K) {e : Expr} {ta : TA} {p pos tpos : Pos} {elts : List Expr} {kk : Nat} (hg : Gl X "enumerate") (hm : X.mg "enumerate" = none) (ha : PA X [e] ta) (hs : starEach [e] X.env = [(false, eval e X.env)] := by rfl) :
    PI X (.Tuple elts kk tpos) (.Call (.Name "enumerate" p) [e] [] pos) (iEnumG K ta) := by
  subst eK
  refine ⟨fun pins s σ H R I h => ?_⟩
  refine Call_ (ld_blt I hg hm boot_enumerate (PyProof.Rows.callWith_type1 (thn (ha.run pos pins s σ H _ I h) fun us s1 ⟨vs, H1, I1, r1, q1⟩ => ?_) hs rfl))
  obtain ⟨t, a, xs, rfl, hq, q⟩ := q1
  cases r1 with
  | cons r rr =>
    cases rr
    cases r
    obtain ⟨its, rv, p', _⟩ := sqb_heap I1 hq
    refine en_call p' fun h' he g hsz hk => wpAny_pyIter_enum he ?_
    refine ⟨s1.heap.objs.size + 1, [s1.heap.objs.size + 1, s1.heap.objs.size], _, _, H1, rfl, I1.kept (t' := s1.toks) hk, turnE t a (s1.heap.objs.size + 1) s1.heap.objs.size, ⟨⟨.none, he⟩, g, Nat.succ_ne_self _⟩, fun b hb => ?_, q⟩
    have hle : s1.heap.objs.size ≤ b := by
      have e' : b = s1.heap.objs.size + 1 ∨ b = s1.heap.objs.size := by simpa using hb
      rcases e' with z | z <;> rw [z] <;> omega
    exact I1.fpOk hle (I1.hok.fresh hle)
theorem walkE {K : PySem.W.Frag} {t : Bool} {a : Addr} {xs : List V} : Walk (IteG K t a) xs.length (fun H => SqB K t H a xs) (YPair (fun i => some (.int (i : Nat))) (fun i => xs[i]?)) := by
  refine ⟨fun i _ hi q => ⟨xs, xs[i], q, List.getElem?_eq_getElem hi⟩, fun _ q => ⟨xs, q, Nat.le_refl _⟩, fun i H v H' _ q y => ?_⟩
  obtain ⟨T, x, h1, h2, h3, h4⟩ := y
  exact ⟨T, .int (i : Nat), x, h1, h2, h3, rfl, h4 xs q⟩
end Zg
/-! comprehensions over two sources -/
namespace Ow
open PySem PySem.Spec PyProof.Rows L2
/-- the inner walk: D grows by ys -/
theorem lc2_in {J1 : L2.It} {n1 : Nat} {G1 : Hp → Prop} {Y1 : Nat → Hp → V → Hp → Prop} (w : Walk J1 n1 G1 Y1) (ys : Nat → V) {a0 : List V} (hb : a0.length + n1 < sizeLine) {g1 : TG} {te : TE} {vs1 : List Nat} {σ : L2.St} {H4 : Hp} {D : Addr} {Nx : Hp → Prop} (e4 : H4 D = some (.lst a0))
    (hG : ∀ H, Gw D H4 H → G1 H)
    (hs : ∀ j x H H' (N : VK), j < n1 → Gw D H4 H → Y1 j H x H' → (∀ H5, Same H H5 → N (ys j) H5) → g1 x (wipe σ vs1) H' fun σ3 H5 => wipe σ3 vs1 = wipe σ vs1 ∧ te σ3 H5 N)
    (hd : ∀ H, Gw D H4 H → H D = some (.lst (a0 ++ (List.range n1).map ys)) → Nx H) :
    ∃ W1 : Nat → Nat → Hp → Prop, (∃ m, W1 0 m H4) ∧ ∀ j k H, W1 j k H →
      (J1.stop j H ∧ Nx H) ∨ (J1.go j H ∧ ∃ Nx1 : Hp → Prop, (∀ H', Nx1 H' → ∃ k', k' < k ∧ W1 (j + 1) k' H') ∧ ∀ x H', J1.yld j H x H' → g1 x (wipe σ vs1) H' fun σ3 H5 => wipe σ3 vs1 = wipe σ vs1 ∧ tYes σ3 H5 fun b H6 =>
        if b = true then te σ3 H6 fun y H7 => ∃ acc, H7 D = some (.lst acc) ∧ acc.length < sizeLine ∧ Nx1 (upd H7 D (.lst (acc ++ [y]))) else Nx1 H6) := by
  refine ⟨fun j m H => m = n1 - j ∧ j ≤ n1 ∧ Gw D H4 H ∧ H D = some (.lst (a0 ++ (List.range j).map ys)), ⟨n1, by simp, Nat.zero_le _, Gw.refl _ _, by simpa using e4⟩, ?_⟩
  rintro j m H ⟨rfl, hj, s, e⟩
  by_cases hlt : j < n1
  · refine .inr ⟨w.goes j H hlt (hG H s), fun H' => Gw D H4 H' ∧ H' D = some (.lst (a0 ++ (List.range (j + 1)).map ys)), fun H' p => ⟨n1 - (j + 1), by omega, rfl, hlt, p.1, p.2⟩, fun x H' y => ?_⟩
    refine hs j x H H' _ hlt s (w.yields j H x H' hlt (hG H s) y) fun H5 s5 => ?_
    refine ⟨_, s5 _ _ e, ?_, (s.trans (Gw.same s5)).trans Gw.put, ?_⟩
    · rw [List.length_append, List.length_map, List.length_range]
      omega
    · rw [upd_same, List.range_succ, List.map_append, List.append_assoc]
      rfl
  · have ej : j = n1 := by omega
    subst ej
    exact .inl ⟨w.stops H (hG H s), hd H s e⟩
/-- the outer walk: with the list ac i at D before turn i -/
theorem lc2_out {J : L2.It} {n : Nat} {G : Hp → Prop} {Y : Nat → Hp → V → Hp → Prop} (w : Walk J n G Y) (ac : Nat → List V) (h0 : ac 0 = []) {g : TG} {wi1 : L2.TI} {g1 : TG} {te : TE} {vs vs1 : List Nat} {σ : L2.St} {H1 : Hp} {D : Addr} {Qd : Hp → Prop} (hD : H1 D = none)
    (hG : ∀ H, Same H1 H → G H)
    (hs : ∀ i x H H', i < n → Same H1 H → H D = some (.lst (ac i)) → Y i H x H' → g x (wipe σ vs) H' fun σ2 H2 => wipe σ2 vs = wipe σ vs ∧
      wi1 σ2 H2 fun J1 H4 => ∃ W1 : Nat → Nat → Hp → Prop, (∃ m, W1 0 m H4) ∧ ∀ j k H, W1 j k H →
        (J1.stop j H ∧ (Same H1 H ∧ H D = some (.lst (ac (i + 1))))) ∨ (J1.go j H ∧ ∃ Nx1 : Hp → Prop, (∀ H', Nx1 H' → ∃ k', k' < k ∧ W1 (j + 1) k' H') ∧ ∀ x H', J1.yld j H x H' → g1 x (wipe σ2 vs1) H' fun σ3 H5 => wipe σ3 vs1 = wipe σ2 vs1 ∧ tYes σ3 H5 fun b H6 =>
          if b = true then te σ3 H6 fun y H7 => ∃ acc, H7 D = some (.lst acc) ∧ acc.length < sizeLine ∧ Nx1 (upd H7 D (.lst (acc ++ [y]))) else Nx1 H6))
    (hd : ∀ H, Same H1 H → H D = some (.lst (ac n)) → Qd H) :
    ∃ W : Nat → Nat → Hp → Prop, (∃ m, W 0 m (upd H1 D (.lst []))) ∧ ∀ i m H, W i m H →
      (J.stop i H ∧ Qd H) ∨ (J.go i H ∧ ∃ Nx : Hp → Prop, (∀ H', Nx H' → ∃ m', m' < m ∧ W (i + 1) m' H') ∧ ∀ x H', J.yld i H x H' → g x (wipe σ vs) H' fun σ2 H2 => wipe σ2 vs = wipe σ vs ∧ tYes σ2 H2 fun b H3 =>
        if b = true then wi1 σ2 H3 fun J1 H4 => ∃ W1 : Nat → Nat → Hp → Prop, (∃ m, W1 0 m H4) ∧ ∀ j k H, W1 j k H →
          (J1.stop j H ∧ Nx H) ∨ (J1.go j H ∧ ∃ Nx1 : Hp → Prop, (∀ H', Nx1 H' → ∃ k', k' < k ∧ W1 (j + 1) k' H') ∧ ∀ x H', J1.yld j H x H' → g1 x (wipe σ2 vs1) H' fun σ3 H5 => wipe σ3 vs1 = wipe σ2 vs1 ∧ tYes σ3 H5 fun b H6 =>
            if b = true then te σ3 H6 fun y H7 => ∃ acc, H7 D = some (.lst acc) ∧ acc.length < sizeLine ∧ Nx1 (upd H7 D (.lst (acc ++ [y]))) else Nx1 H6)
        else Nx H3) := by
  refine ⟨fun i m H => m = n - i ∧ i ≤ n ∧ Same H1 H ∧ H D = some (.lst (ac i)), ⟨n, by simp, Nat.zero_le _, Same.new hD, by rw [h0, upd_same]⟩, ?_⟩
  rintro i m H ⟨rfl, hi, s, e⟩
  by_cases hlt : i < n
  · exact .inr ⟨w.goes i H hlt (hG H s), fun H' => Same H1 H' ∧ H' D = some (.lst (ac (i + 1))), fun H' p => ⟨n - (i + 1), by omega, rfl, hlt, p.1, p.2⟩, fun x H' y => hs i x H H' hlt s e (w.yields i H x H' hlt (hG H s) y)⟩
  · have ei : i = n := by omega
    subst ei
    exact .inl ⟨w.stops H (hG H s), hd H s e⟩
end Ow
/-! tuples: slices and sums, the same object or a new one -/
namespace Ow
open PySem PySem.Spec PyProof.Rows L2
theorem cut_all {xs : List V} {lo hi : Option Int} (h : HT.sIx xs.length 0 lo = 0 ∧ HT.sIx xs.length xs.length hi = xs.length) : cutV xs lo hi = xs := by
  unfold cutV
  rw [h.1, h.2]
  simp
theorem cut_to (xs : List V) (k : Nat) : cutV xs none (some (k : Int)) = xs.take k := by
  unfold cutV
  rw [HT.sIx_none, HT.sIx_nat, List.drop_zero, Nat.sub_zero]
  rcases Nat.le_total k xs.length with h | h
  · rw [Nat.min_eq_left h]
  · rw [Nat.min_eq_right h, List.take_of_length_le (Nat.le_refl _), List.take_of_length_le h]
theorem cut_from (xs : List V) (k : Nat) : cutV xs (some (k : Int)) none = xs.drop k := by
  unfold cutV
  rw [HT.sIx_none, HT.sIx_nat, List.take_of_length_le (by rw [List.length_drop]; exact Nat.le_refl _)]
  rcases Nat.le_total k xs.length with h | h
  · rw [Nat.min_eq_left h]
  · rw [Nat.min_eq_right h, List.drop_of_length_le (Nat.le_refl _), List.drop_of_length_le h]
theorem cut_mid (xs : List V) (j k : Nat) : cutV xs (some (j : Int)) (some (k : Int)) = (xs.drop j).take (k - j) := by
  unfold cutV
  rw [HT.sIx_nat, HT.sIx_nat]
  rcases Nat.le_total j xs.length with h | h
  · rw [Nat.min_eq_left h]
    rcases Nat.le_total k xs.length with h2 | h2
    · rw [Nat.min_eq_left h2]
    · rw [Nat.min_eq_right h2, List.take_of_length_le (by rw [List.length_drop]; omega), List.take_of_length_le (by rw [List.length_drop]; omega)]
  · rw [List.drop_of_length_le (show xs.length ≤ min j xs.length by omega), List.drop_of_length_le h]
    simp
theorem cutA {K : PySem.W.Frag} {H : Hp} {a : Addr} {xs : List V} {lo hi : Option Int} {Q : VK} (h : SqT K H a xs) (q : ∀ p H', Same H H' → SqT K H' p (cutV xs lo hi) → Q (.ref p) H') : rSlA K (.ref a) lo hi H Q := by
  refine ⟨a, xs, rfl, h, fun e => ?_, fun _ p np => ?_⟩
  · exact q a H (Same.refl _) (by rw [cut_all e]; exact h)
  · exact q p _ (Same.new np) (SqT.of upd_same)
theorem catA {K : PySem.W.Frag} {H : Hp} {a b : Addr} {xs ys : List V} {Q : VK} (h : SqT K H a xs) (h2 : SqT K H b ys) (l : xs.length + ys.length ≤ sizeLine) (q : ∀ p H', Same H H' → SqT K H' p (xs ++ ys) → Q (.ref p) H') : rCatA K (.ref a) (.ref b) H Q := by
  refine ⟨a, b, xs, ys, rfl, rfl, h, h2, l, fun e => ?_, fun _ e => ?_, fun _ _ p np => ?_⟩
  · exact q b H (Same.refl _) (by rw [e]; exact h2)
  · exact q a H (Same.refl _) (by rw [e, List.append_nil]; exact h)
  · exact q p _ (Same.new np) (SqT.of upd_same)
end Ow
namespace Ow
open PySem PySem.Spec PyProof.Rows L2
/-- every turn gives a new tuple, of the row i -/
theorem lc_newT {J : L2.It} {n : Nat} {G : Hp → Prop} {Y : Nat → Hp → V → Hp → Prop} (w : Walk J n G Y) (row : Nat → List V) (hn : n < sizeLine) {g : TG} {te : TE} {vs : List Nat} {σ : L2.St} {H1 : Hp} {D : Addr} {Qd : Hp → Prop} (hD : H1 D = none)
    (hG : ∀ H, Same H1 H → G H)
    (hs : ∀ i x H H' (N : VK), i < n → Same H1 H → Y i H x H' → (∀ H4 q, Same H H4 → H4 q = some (.tup (row i)) → N (.ref q) H4) → g x (wipe σ vs) H' fun σ2 H2 => wipe σ2 vs = wipe σ vs ∧ te σ2 H2 N)
    (hd : ∀ (H : Hp) (ts : List Addr), Same H1 H → H D = some (.lst (ts.map V.ref)) → ts.length = n → (∀ i t, ts[i]? = some t → H t = some (.tup (row i))) → Qd H) :
    ∃ W : Nat → Nat → Hp → Prop, (∃ m, W 0 m (upd H1 D (.lst []))) ∧ ∀ i m H, W i m H →
      (J.stop i H ∧ Qd H) ∨ (J.go i H ∧ ∃ Nx : Hp → Prop, (∀ H', Nx H' → ∃ m', m' < m ∧ W (i + 1) m' H') ∧ ∀ x H', J.yld i H x H' → g x (wipe σ vs) H' fun σ2 H2 => wipe σ2 vs = wipe σ vs ∧ tYes σ2 H2 fun b H3 =>
        if b = true then te σ2 H3 fun y H4 => ∃ acc, H4 D = some (.lst acc) ∧ acc.length < sizeLine ∧ Nx (upd H4 D (.lst (acc ++ [y]))) else Nx H3) := by
  refine lc_it w (fun i H => Same H1 H ∧ ∃ ts : List Addr, H D = some (.lst (ts.map V.ref)) ∧ ts.length = i ∧ ∀ j t, ts[j]? = some t → H t = some (.tup (row j))) ⟨Same.new hD, [], upd_same, rfl, fun j t e => by simp at e⟩ (fun i H _ h => hG H h.1) (fun i x H H' hi h y => ?_) fun H h => ?_
  · obtain ⟨s, ts, eD, el, et⟩ := h
    refine hs i x H H' _ hi s y fun H4 q s4 eq => ?_
    have tD : ∀ {t : Addr} {r : List V}, H4 t = some (.tup r) → t ≠ D := fun e z => by rw [z, s4 _ _ eD] at e; cases e
    refine ⟨_, s4 _ _ eD, by rw [List.length_map, el]; exact Nat.lt_trans hi hn, Same.over (s.trans s4) hD, ts ++ [q], ?_, by rw [List.length_append, el]; rfl, fun j t ej => ?_⟩
    · rw [upd_same, List.map_append]
      rfl
    · rcases Nat.lt_trichotomy j ts.length with h1 | h1 | h1
      · rw [List.getElem?_append_left h1] at ej
        have f3 := s4 _ _ (et j t ej)
        rw [upd_ne (tD f3)]
        exact f3
      · subst h1
        have e2 : q = t := by simpa using ej
        subst e2
        rw [upd_ne (tD eq), el]
        exact eq
      · rw [List.getElem?_eq_none (by rw [List.length_append, List.length_singleton]; omega)] at ej
        cases ej
  · obtain ⟨s, ts, eD, el, et⟩ := h
    exact hd H ts s eD el et
end Ow
/-! xs[a:c] = ys -/
namespace Ow
open PySem PySem.Spec PyProof.Rows L2
def gSl (te : TE) (tl th : TO) : TG := fun v σ H Q => te σ H fun x H1 => tl σ H1 fun l H2 => th σ H2 fun u H3 => ∃ p b xs ys, ∃ a c : Int, x = .ref p ∧ v = .ref b ∧ H3 p = some (.lst xs) ∧ H3 b = some (.lst ys) ∧ p ≠ b ∧ l = some a ∧ u = some c ∧ 0 ≤ a ∧ a ≤ c ∧ c ≤ xs.length ∧ xs.length + ys.length ≤ sizeLine ∧ Q σ (upd H3 p (.lst (xs.take a.toNat ++ ys ++ xs.drop c.toNat)))
theorem part_int {u : Value} {i : Int} (h : IsPart u (some i)) : RelV (.int i) u := by
  cases h with
  | int i t => exact ⟨t, rfl⟩
theorem pg_slice {X : Cx} {o : Expr} {lo hi : Option Expr} {p2 pos : Pos} {te : TE} {tl th : TO} (ho : PE X o te) (hl : PO X lo tl) (hu : PO X hi th)
    (ha : ∀ v, assign (.Subscript o (.Slice lo hi none p2) pos) X.env v = (do
      let ov ← holding [v] (eval o X.env)
      let iv ← holding [v, ov] (eval (.Slice lo hi none p2) X.env)
      standAt pos
      holding [v, ov, iv] (setItem ov iv v)
      release [iv, v, ov] []) := by intro _; rfl) : PG X (.Subscript o (.Slice lo hi none p2) pos) (gSl te tl th) := by
  refine ⟨fun pins s σ H v u Q I r h => ?_⟩
  rw [ha]
  refine wpAny_bind (wpAny_holding (thn (ho.run pins s σ H _ I h) fun ov s1 ⟨x, H1, I1, r1, q1⟩ => ?_))
  refine wpAny_bind (wpAny_holding (wpAny_Slice (thn (hl.run pins s1 σ H1 _ I1 q1) fun vl s2 ⟨l, H2, I2, pl, q2⟩ => thn (hu.run pins s2 σ H2 _ I2 q2) fun vu s3 ⟨w, H3, I3, pu, q3⟩ => ?_)))
  rw [evalPart_none]
  refine wpAny_pure ?_
  have I4 : Inv X pins σ H3 { s3 with heap := s3.heap.push { cls := .type "slice", data := .fields #[vl, vu, .none] } } := I3.kept (t' := s3.toks) fun b ob q => Heap.get?_push_of_some _ q
  obtain ⟨p, b, xs, ys, a, c, rfl, rfl, hp, hb, ne, rfl, rfl, h0, h1, h2, hz, q⟩ := q3
  cases r1
  cases r
  refine wpAny_bind (wpAny_standAt (wpAny_bind (wpAny_holding (set_slice I4 hp hb ne (Heap.IsSliceOf.new ..) (part_int pl) (part_int pu) h0 h1 h2 hz fun s' I' => ?_))))
  exact wpAny_release ⟨σ, _, I', q⟩
end Ow
/-! lists of ints by places -/
namespace Po
def gI (xs : List Int) (i : Nat) : Int := xs.getD i 0
def gR (W : List (List Int)) (i : Nat) : List Int := W.getD i []
def minL : List Int → Int
  | [] => 0
  | [x] => x
  | x :: y :: r => if x ≤ minL (y :: r) then x else minL (y :: r)
theorem minL_mem : ∀ {xs : List Int}, xs ≠ [] → minL xs ∈ xs
  | [], h => absurd rfl h
  | [x], _ => List.mem_singleton.mpr rfl
  | x :: y :: r, _ => by
    rw [minL]
    split
    · exact List.mem_cons_self
    · exact List.mem_cons_of_mem _ (minL_mem (by simp))
theorem minL_le : ∀ {xs : List Int} {y : Int}, y ∈ xs → minL xs ≤ y
  | [], y, h => nomatch h
  | [x], y, h => by rw [List.mem_singleton.mp h]; exact Int.le_refl _
  | x :: z :: r, y, h => by
    rw [minL]
    rcases List.mem_cons.mp h with e | m
    · split <;> omega
    · have := minL_le m
      split <;> omega
theorem minL_eq {xs : List Int} {m : Int} (h : m ∈ xs) (l : ∀ y ∈ xs, m ≤ y) : m = minL xs :=
  Int.le_antisymm (l _ (minL_mem (fun e => by rw [e] at h; cases h))) (minL_le h)
def argL (xs : List Int) : Nat := xs.findIdx fun x => decide (x = minL xs)
theorem argL_lt {xs : List Int} (h : xs ≠ []) : argL xs < xs.length :=
  List.findIdx_lt_length_of_exists ⟨_, minL_mem h, by simp⟩
theorem argL_at {xs : List Int} (h : xs ≠ []) : xs[argL xs]? = some (minL xs) := by
  have l := argL_lt h
  rw [List.getElem?_eq_getElem l]
  have e := List.findIdx_getElem (xs := xs) (p := fun x => decide (x = minL xs)) (w := l)
  exact congrArg some (of_decide_eq_true e)
theorem argL_no {xs : List Int} {m : Nat} {z : Int} (h : m < argL xs) (e : xs[m]? = some z) : z ≠ minL xs := by
  have := List.not_of_lt_findIdx h
  obtain ⟨l, e⟩ := List.getElem?_eq_some_iff.mp e
  rw [e] at this
  simpa using this
theorem argL_eq {xs : List Int} {j : Nat} (h : xs[j]? = some (minL xs)) (n : ∀ m z, m < j → xs[m]? = some z → z ≠ minL xs) : argL xs = j := by
  have ne : xs ≠ [] := fun e => by rw [e] at h; simp at h
  rcases Nat.lt_trichotomy (argL xs) j with a | a | a
  · exact absurd rfl (n _ _ a (argL_at ne))
  · exact a
  · exact absurd rfl (argL_no a h)
/-- by places -/
def mk (n : Nat) (f : Nat → Int) : List Int := (List.range n).map f
theorem mk_len (n : Nat) (f : Nat → Int) : (mk n f).length = n := by simp [mk]
theorem mk_at {n : Nat} {f : Nat → Int} {i : Nat} (h : i < n) : (mk n f)[i]? = some (f i) := by simp [mk, h]
theorem gI_at {xs : List Int} {i : Nat} {v : Int} (h : xs[i]? = some v) : gI xs i = v := by unfold gI; rw [List.getD_eq_getElem?_getD, h]; rfl
theorem gI_mk {n : Nat} {f : Nat → Int} {i : Nat} (h : i < n) : gI (mk n f) i = f i := gI_at (mk_at h)
theorem at_gI {xs : List Int} {i : Nat} (h : i < xs.length) : xs[i]? = some (gI xs i) := by
  rw [List.getElem?_eq_getElem h]
  exact congrArg some (gI_at (List.getElem?_eq_getElem h)).symm
theorem gR_at {W : List (List Int)} {i : Nat} {v : List Int} (h : W[i]? = some v) : gR W i = v := by unfold gR; rw [List.getD_eq_getElem?_getD, h]; rfl
theorem at_gR {W : List (List Int)} {i : Nat} (h : i < W.length) : W[i]? = some (gR W i) := by
  rw [List.getElem?_eq_getElem h]
  exact congrArg some (gR_at (List.getElem?_eq_getElem h)).symm
theorem mk_ne {n : Nat} {f : Nat → Int} (h : 0 < n) : mk n f ≠ [] := fun e => by have := mk_len n f; rw [e] at this; simp at this; omega
theorem mk_self (xs : List Int) : mk xs.length (gI xs) = xs := by
  apply List.ext_getElem?
  intro i
  by_cases h : i < xs.length
  · rw [mk_at h, at_gI h]
  · rw [List.getElem?_eq_none (by rw [mk_len]; omega), List.getElem?_eq_none (by omega)]
theorem mem_mk {n : Nat} {f : Nat → Int} {y : Int} : y ∈ mk n f ↔ ∃ i, i < n ∧ y = f i := by
  simp only [mk, List.mem_map, List.mem_range]
  exact ⟨fun ⟨i, a, b⟩ => ⟨i, a, b.symm⟩, fun ⟨i, a, b⟩ => ⟨i, a, b.symm⟩⟩
theorem minmk_le {n : Nat} {f : Nat → Int} {i : Nat} (h : i < n) : minL (mk n f) ≤ f i := minL_le (mem_mk.mpr ⟨i, h, rfl⟩)
theorem minmk_ex {n : Nat} {f : Nat → Int} (h : 0 < n) : ∃ i, i < n ∧ minL (mk n f) = f i := mem_mk.mp (minL_mem (mk_ne h))
theorem argmk {n : Nat} {f : Nat → Int} (h : 0 < n) : argL (mk n f) < n ∧ minL (mk n f) = f (argL (mk n f)) := by
  have l := argL_lt (mk_ne (f := f) h)
  rw [mk_len] at l
  refine ⟨l, ?_⟩
  have a := argL_at (mk_ne (f := f) h)
  rw [mk_at l] at a
  exact (Option.some.inj a).symm
end Po
/-! data: kinds, copies -/
namespace Dd
open PySem PySem.Spec PyProof.Rows L2 Ow Po
theorem pe_gi {X : Cx} {x : Str} {n : Int} {t : Tok} {pos : Pos} (gl : Gl X x) (top : X.mg x = some (.int n t)) (h1 : x ≠ "__name__" := by decide) (h2 : (x == ("__debug__" : Str)) = false := by decide) : PE X (.Name x pos) (tC (.int n)) := pe_glob (v := .int n) gl top ⟨_, rfl⟩ (hd := h2)
def LI (H : Hp) (a : Addr) (xs : List Int) : Prop := H a = some (.lst (xs.map V.int))
theorem LI.same {H H' : Hp} {a : Addr} {xs : List Int} (s : Same H H') (h : LI H a xs) : LI H' a xs := s _ _ h
theorem LI.seq {K : PySem.W.Frag} {H : Hp} {a : Addr} {xs : List Int} (h : LI H a xs) : SqL K H a (xs.map V.int) := SqL.of h
theorem li_at {xs : List Int} {i : Nat} (h : i < xs.length) : (xs.map V.int)[i]? = some (V.int (gI xs i)) := by rw [List.getElem?_map, at_gI h]; rfl
/-- a list of lists of ints, none of which is av -/
structure LL (av : Addr → Prop) (H : Hp) (a : Addr) (xss : List (List Int)) : Prop where
  ex : ∃ ts : List Addr, H a = some (.lst (ts.map V.ref)) ∧ ts.length = xss.length ∧ (∀ (i : Nat) (t : Addr) (xs : List Int), ts[i]? = some t → xss[i]? = some xs → LI H t xs) ∧ ∀ t ∈ ts, ¬ av t
theorem LL.same {av : Addr → Prop} {H H' : Hp} {a : Addr} {xss : List (List Int)} (s : Same H H') (h : LL av H a xss) : LL av H' a xss := by
  obtain ⟨ts, e, l, g, n⟩ := h
  exact ⟨ts, s _ _ e, l, fun i t xs e1 e2 => s _ _ (g i t xs e1 e2), n⟩
/-- the place i -/
theorem LL.at {av : Addr → Prop} {H : Hp} {a : Addr} {xss : List (List Int)} (h : LL av H a xss) {i : Nat} {xs : List Int} (e : xss[i]? = some xs) : ∃ ys t, H a = some (.lst ys) ∧ ys.length = xss.length ∧ ys[i]? = some (.ref t) ∧ LI H t xs ∧ ¬ av t := by
  obtain ⟨ts, f, l, g, n⟩ := h
  have hi := (List.getElem?_eq_some_iff.mp e).1
  have ht : i < ts.length := by rw [l]; exact hi
  refine ⟨_, ts[i], f, by rw [List.length_map, l], by simp [ht], g i _ xs (List.getElem?_eq_getElem ht) e, n _ (List.getElem_mem ht)⟩
def tyD : PyData → String
  | .none => "NoneType"
  | .bool _ => "bool"
  | .int _ => "int"
  | .str _ => "str"
  | .list _ => "list"
  | .tuple _ => "tuple"
  | .dict _ => "dict"
theorem dp_ty {K : PySem.W.Frag} {H : Hp} {v : V} {d : PyData} (h : Dp K H v d) : TyX K H v (.type (tyD d)) := by
  cases h with
  | non => exact .base .non
  | bl b => exact .base (.bl b)
  | int i => exact .base (.int i)
  | str x => exact .base (.str x)
  | lst h _ =>
    rcases h with (h | ⟨o, h⟩) | ⟨o, vs, n, h, c, _⟩
    · exact .base (.lst h)
    · exact .base (.frz h)
    · exact .kList h (by rw [c])
  | tup h _ =>
    rcases h with (h | ⟨o, h⟩) | ⟨o, vs, n, h, c, _⟩
    · exact .base (.tup h)
    · exact .fTuple h
    · exact .kTuple h (by rw [c])
theorem ki_int {K : PySem.W.Frag} : ∀ d : PyData, PySem.W.kitOne K (.type (tyD d)) (.type "int") = some (match d with | .int _ => true | .bool _ => true | _ => false)
  | .none => kit_ty (show kitB "NoneType" "int" = some false by decide +kernel)
  | .bool _ => kit_ty (show kitB "bool" "int" = some true by decide +kernel)
  | .int _ => kit_ty (show kitB "int" "int" = some true by decide +kernel)
  | .str _ => kit_ty (show kitB "str" "int" = some false by decide +kernel)
  | .list _ => kit_ty (show kitB "list" "int" = some false by decide +kernel)
  | .tuple _ => kit_ty (show kitB "tuple" "int" = some false by decide +kernel)
  | .dict _ => kit_ty (show kitB "dict" "int" = some false by decide +kernel)
theorem ki_bool {K : PySem.W.Frag} : ∀ d : PyData, PySem.W.kitOne K (.type (tyD d)) (.type "bool") = some (match d with | .bool _ => true | _ => false)
  | .none => kit_ty (show kitB "NoneType" "bool" = some false by decide +kernel)
  | .bool _ => kit_ty (show kitB "bool" "bool" = some true by decide +kernel)
  | .int _ => kit_ty (show kitB "int" "bool" = some false by decide +kernel)
  | .str _ => kit_ty (show kitB "str" "bool" = some false by decide +kernel)
  | .list _ => kit_ty (show kitB "list" "bool" = some false by decide +kernel)
  | .tuple _ => kit_ty (show kitB "tuple" "bool" = some false by decide +kernel)
  | .dict _ => kit_ty (show kitB "dict" "bool" = some false by decide +kernel)
theorem ki_tup {K : PySem.W.Frag} : ∀ d : PyData, PySem.W.kitOne K (.type (tyD d)) (.type "tuple") = some (match d with | .tuple _ => true | _ => false)
  | .none => kit_ty (show kitB "NoneType" "tuple" = some false by decide +kernel)
  | .bool _ => kit_ty (show kitB "bool" "tuple" = some false by decide +kernel)
  | .int _ => kit_ty (show kitB "int" "tuple" = some false by decide +kernel)
  | .str _ => kit_ty (show kitB "str" "tuple" = some false by decide +kernel)
  | .list _ => kit_ty (show kitB "list" "tuple" = some false by decide +kernel)
  | .tuple _ => kit_ty (show kitB "tuple" "tuple" = some true by decide +kernel)
  | .dict _ => kit_ty (show kitB "dict" "tuple" = some false by decide +kernel)
theorem ki_str {K : PySem.W.Frag} : ∀ d : PyData, PySem.W.kitOne K (.type (tyD d)) (.type "str") = some (match d with | .str _ => true | _ => false)
  | .none => kit_ty (show kitB "NoneType" "str" = some false by decide +kernel)
  | .bool _ => kit_ty (show kitB "bool" "str" = some false by decide +kernel)
  | .int _ => kit_ty (show kitB "int" "str" = some false by decide +kernel)
  | .str _ => kit_ty (show kitB "str" "str" = some true by decide +kernel)
  | .list _ => kit_ty (show kitB "list" "str" = some false by decide +kernel)
  | .tuple _ => kit_ty (show kitB "tuple" "str" = some false by decide +kernel)
  | .dict _ => kit_ty (show kitB "dict" "str" = some false by decide +kernel)
theorem ki_list {K : PySem.W.Frag} : ∀ d : PyData, PySem.W.kitOne K (.type (tyD d)) (.type "list") = some (match d with | .list _ => true | _ => false)
  | .none => kit_ty (show kitB "NoneType" "list" = some false by decide +kernel)
  | .bool _ => kit_ty (show kitB "bool" "list" = some false by decide +kernel)
  | .int _ => kit_ty (show kitB "int" "list" = some false by decide +kernel)
  | .str _ => kit_ty (show kitB "str" "list" = some false by decide +kernel)
  | .list _ => kit_ty (show kitB "list" "list" = some true by decide +kernel)
  | .tuple _ => kit_ty (show kitB "tuple" "list" = some false by decide +kernel)
  | .dict _ => kit_ty (show kitB "dict" "list" = some false by decide +kernel)
theorem dpAll_get {K : PySem.W.Frag} {H : Hp} : ∀ {vs : List V} {ds : List PyData}, DpAll K H vs ds → vs.length = ds.length ∧ ∀ (i : Nat) (v : V), vs[i]? = some v → ∃ d, ds[i]? = some d ∧ Dp K H v d
  | [], [], .nil => ⟨rfl, fun i v e => by simp at e⟩
  | v :: vs, d :: ds, .cons h t => by
    obtain ⟨l, g⟩ := dpAll_get t
    refine ⟨by rw [List.length_cons, List.length_cons, l], fun i u e => ?_⟩
    cases i with
    | zero =>
      cases e
      exact ⟨d, rfl, h⟩
    | succ i => exact g i u e
mutual
theorem dp_same {K : PySem.W.Frag} {H H' : Hp} (s : Same H H') : ∀ {v : V} {d : PyData}, Dp K H v d → Dp K H' v d
  | _, _, .non => .non
  | _, _, .bl b => .bl b
  | _, _, .int i => .int i
  | _, _, .str x => .str x
  | _, _, .lst h a => .lst (s.seq h) (dpAll_same s a)
  | _, _, .tup h a => .tup (sqt_same s h) (dpAll_same s a)
theorem dpAll_same {K : PySem.W.Frag} {H H' : Hp} (s : Same H H') : ∀ {vs : List V} {ds : List PyData}, DpAll K H vs ds → DpAll K H' vs ds
  | _, _, .nil => .nil
  | _, _, .cons h t => .cons (dp_same s h) (dpAll_same s t)
end
theorem intsD {K : PySem.W.Frag} {H : Hp} : ∀ s : List Int, DpAll K H (s.map V.int) (s.map PyData.int)
  | [] => .nil
  | x :: s => .cons (.int x) (intsD s)
theorem dpAll_of {K : PySem.W.Frag} {H : Hp} : ∀ {vs : List V} {ds : List PyData}, vs.length = ds.length → (∀ (i : Nat) (v : V) (d : PyData), vs[i]? = some v → ds[i]? = some d → Dp K H v d) → DpAll K H vs ds
  | [], [], _, _ => .nil
  | [], _ :: _, l, _ => by cases l
  | _ :: _, [], l, _ => by cases l
  | v :: vs, d :: ds, l, h => .cons (h 0 v d rfl rfl) (dpAll_of (Nat.succ.inj l) fun i u e a b => h (i + 1) u e a b)
theorem dp_tup {K : PySem.W.Frag} {H : Hp} {v : V} {xs : List PyData} (h : Dp K H v (.tuple xs)) : ∃ a vs, v = .ref a ∧ SqT K H a vs ∧ DpAll K H vs xs := by
  cases h with
  | tup h a => exact ⟨_, _, rfl, h, a⟩
theorem dp_lst {K : PySem.W.Frag} {H : Hp} {v : V} {xs : List PyData} (h : Dp K H v (.list xs)) : ∃ a vs, v = .ref a ∧ SqL K H a vs ∧ DpAll K H vs xs := by
  cases h with
  | lst h a => exact ⟨_, _, rfl, h, a⟩
theorem xiJ {x : V} {i : Nat} (h : x = V.int (0 + (i : Int))) : x = V.int (i : Nat) := by rw [h, Int.zero_add]
theorem neV (x y : Int) : (!decide (V.int x = V.int y)) = decide (x ≠ y) := by
  by_cases z : x = y <;> simp [z]
theorem eqV0 (x y : Int) : decide (V.int x = V.int y) = decide (x = y) := by
  by_cases z : x = y <;> simp [z]
theorem modNat {n : Nat} (x : Int) (h : 0 < n) : ∃ k : Nat, k < n ∧ x % (n : Int) = (k : Int) := by
  have a := Int.emod_nonneg x (show (n : Int) ≠ 0 by omega)
  have b := Int.emod_lt_of_pos x (show (0 : Int) < (n : Int) by omega)
  exact ⟨(x % (n : Int)).toNat, by omega, by omega⟩
end Dd
/-! methods and makings that may raise -/
namespace Ow
open PySem PySem.Spec PyProof.Rows L2
/-- the method m of the class C keeps sp, by k levels; it may raise -/
structure Kmx (P : Program) (w : World) (K : PySem.W.Frag) (mg : Str → Option Value) (base : Heap) (C : Addr) (k : Nat) (m : Str) (ps : List Str) (sp : Sp) : Prop where
  ex : ∃ f fd, Meth K C m f ∧ FnOk P w K mg base (L2.CX P w) k f fd ps sp ∧ Binds K fd ps []
  cl : Cls K C
def tMethS (C : Addr) (m : Str) (sp : Sp) (E : L2.St → XK) (ta : TE) (t : TA) : TE := fun σ H Q => ta σ H fun x H1 => ∃ a dx fs, x = .ref a ∧ H1 a = some (.ins C dx fs) ∧ fs.lookup m = none ∧ t σ H1 fun vs H2 => sp (x :: vs) H2 Q (E σ)
theorem pe_mx {X : Cx} {W : WX} {k j : Nat} {C : Addr} {m : Str} {ps : List Str} {sp : Sp} {o e : Expr} {es : List Expr} {ta : TE} {t : TA} {apos pos : Pos} {pl : Sem Bool} (c : Kmx X.prog X.w X.K X.mg X.base C k m ps sp) (hr : Room j X.A) (tk : Takes X W) (he : PE X o ta) (ha : PA X (e :: es) t) (hk : k ≤ j := by decide)
    (hst : starEach (e :: es) X.env = (false, eval e X.env) :: starEach es X.env := by rfl) (hpl : (backTo pos (starEach es X.env)).any (·.1) = false := by rfl)
    (ht : eval (.Call (.Attribute o m apos) (e :: es) [] pos) X.env = (do
      let ov ← eval o X.env; standAt apos.atName
      let (f, first) ← holding [ov] (getMethod ov m pl)
      callWith pos f first (backTo pos (starEach (e :: es) X.env)) (backToKw pos (keywordEach [] X.env))) := by rfl) :
    PE X (.Call (.Attribute o m apos) (e :: es) [] pos) (tMethS C m sp (WE W) ta t) := by
  obtain ⟨f, fd, hm, F, b⟩ := c.ex
  refine ⟨fun pins s σ H Q I h => ?_⟩
  refine PySem.W.methodCall_KW (pl := pl) (thn (he.run pins s σ H _ I h) fun u s1 ⟨x, H1, I1, rx, a, dx, fs, ex, ea, l, q⟩ => ?_) ht
  subst ex
  obtain rfl : u = Value.ref a := rx
  refine getmeth_ok I1 ea c.cl hm l ?_
  refine PySem.W.callWith_K (first := [.ref a]) (h₀ := X.base) I.ok.mod.kin hm.kp (thn (ha.run pos pins s1 σ H1 _ I1 q) fun us s2 ⟨vs, H2, I2, r, q2⟩ => ⟨I2.kIn, ?_⟩) hst hpl
  exact run_fnS (us := .ref a :: us) (vs := .ref a :: vs) F (hr.mono hk) b (passAt tk σ) I2 (.cons rfl r) q2
theorem pe_mx0 {X : Cx} {W : WX} {k j : Nat} {C : Addr} {m : Str} {ps : List Str} {sp : Sp} {o : Expr} {ta : TE} {apos pos : Pos} {pl : Sem Bool} (c : Kmx X.prog X.w X.K X.mg X.base C k m ps sp) (hr : Room j X.A) (tk : Takes X W) (he : PE X o ta) (hk : k ≤ j := by decide)
    (ht : eval (.Call (.Attribute o m apos) [] [] pos) X.env = (do
      let ov ← eval o X.env; standAt apos.atName
      let (f, first) ← holding [ov] (getMethod ov m pl)
      callWith pos f first (backTo pos (starEach [] X.env)) (backToKw pos (keywordEach [] X.env))) := by rfl) :
    PE X (.Call (.Attribute o m apos) [] [] pos) (tMethS C m sp (WE W) ta tNil) := by
  obtain ⟨f, fd, hm, F, b⟩ := c.ex
  refine ⟨fun pins s σ H Q I h => ?_⟩
  refine PySem.W.methodCall_KW (pl := pl) (thn (he.run pins s σ H _ I h) fun u s1 ⟨x, H1, I1, rx, a, dx, fs, ex, ea, l, q⟩ => ?_) ht
  subst ex
  obtain rfl : u = Value.ref a := rx
  refine getmeth_ok I1 ea c.cl hm l ?_
  exact PySem.W.callWith_K0 (first := [.ref a]) I1.kIn hm.kp (run_fnS (us := [.ref a]) (vs := [.ref a]) F (hr.mono hk) b (passAt tk σ) I1 (.cons rfl .nil) q)
/-- the class C is made by an __init__ that keeps sp, by k levels; it may raise -/
structure Kmkx (P : Program) (w : World) (K : PySem.W.Frag) (mg : Str → Option Value) (base : Heap) (C : Addr) (k : Nat) (ps : List Str) (sp : Sp) : Prop where
  ex : ∃ f fd, Mk K C f ∧ FnOk P w K mg base (L2.CX P w) k f fd ps sp ∧ Binds K fd ps []
def tMakeS (C : Addr) (sp : Sp) (E : L2.St → XK) (t : TA) : TE := fun σ H Q => t σ H fun vs H1 => ∀ x dx, H1 x = none → H1 dx = none → dx ≠ x →
  sp (.ref x :: vs) (upd (upd H1 dx (.own x)) x (.ins C dx [])) (fun v H2 => v = .non ∧ Q (.ref x) H2) (E σ)
theorem pe_mkx {X : Cx} {W : WX} {k j : Nat} {C : Addr} {x : Str} {ps : List Str} {sp : Sp} {e : Expr} {es : List Expr} {t : TA} {p pos : Pos} (c : Kmkx X.prog X.w X.K X.mg X.base C k ps sp) (hm : X.mg x = some (.ref C)) (hr : Room j X.A) (tk : Takes X W) (ha : PA X (e :: es) t) (hk : k + 1 ≤ j := by decide) (hg : Gl X x := by rfl)
    (hdb : (x == ("__debug__" : Str)) = false := by decide) (he : starEach (e :: es) X.env = (false, eval e X.env) :: starEach es X.env := by rfl) (hpl : (backTo pos (starEach es X.env)).any (·.1) = false := by rfl) :
    PE X (.Call (.Name x p) (e :: es) [] pos) (tMakeS C sp (WE W) t) := by
  obtain ⟨f, fd, M, F, b⟩ := c.ex
  refine ⟨fun pins s σ H Q I h => ?_⟩
  refine wpAny_Call_Name_kw (ld_glob I hg hm ?_ hdb)
  refine PySem.W.callWith_K (h₀ := X.base) I.ok.mod.kin M.kp (thn (ha.run pos pins s σ H _ I h) fun us s1 ⟨vs, H1, I1, r, q⟩ => ⟨I1.kIn, ?_⟩) he hpl
  have hq := q (s1.heap.objs.size + 1) s1.heap.objs.size (I1.hok.fresh (Nat.le_succ _)) (I1.hok.fresh (Nat.le_refl _)) (Nat.ne_of_lt (Nat.lt_succ_self _))
  have I2 := Inv.made (C := C) I1
  have r2 : Vals (V.ref (s1.heap.objs.size + 1) :: vs) (Value.ref (s1.heap.objs.size + 1) :: us) := .cons rfl r
  have hl : (Value.ref (s1.heap.objs.size + 1) :: us).length = ps.length := by
    have e := r2.length
    rw [F.len _ _ _ _ hq] at e
    exact e.symm
  have bb := b _ (Value.ref (s1.heap.objs.size + 1) :: us) I2.kIn (by rw [List.append_nil]; exact hl)
  rw [List.append_nil] at bb
  refine wpAny_call (make_map (f := f) I1.kIn M.makes M.init (beq_iff_eq.mp M.fn) (codeAny_mono (F.run _ X.stack _ _ ⟨Value.ref (s1.heap.objs.size + 1) :: us, []⟩ (Value.ref (s1.heap.objs.size + 1) :: us) _ _ (WE W σ) ((hr.mono hk).make C us [])
    (I2.env0.make C us []) bb r2 hq) fun r s' hq' => ?_))
  cases r with
  | error e => exact passAt tk σ pins _ _ e s' I2 hq'
  | ok fl =>
    cases fl with
    | ret u =>
      obtain ⟨v, H', I3, rv, ev, q3⟩ := I2.after hq'
      subst ev
      exact ⟨rv, ⟨V.ref (s1.heap.objs.size + 1), H', I3, rfl, q3⟩⟩
    | next => exact False.elim hq'
    | brk => exact False.elim hq'
    | cont => exact False.elim hq'
end Ow
namespace K1
open PySem PySem.Spec PyProof.Rows L2 Ow Tlz
/-! items and changes by their values -/
inductive Fv where
  | rel (n : Str) (cs : List Str) (r : Nat)
  | fact (n : Str) (row : List V)
  | str (n rn : Str) (cs : List Str) (b s : Nat)
  | lay (n : Str) (cs : List Str)
def StrOk (z : Str) : Prop := Pr z ∧ z.length ≤ 200
def StrsOk (cs : List Str) : Prop := cs.length ≤ 10 ∧ ∀ z ∈ cs, StrOk z
def FvOk : Fv → Prop
  | .rel n cs r => StrOk n ∧ StrsOk cs ∧ r ≤ 10000
  | .fact n row => StrOk n ∧ (∀ x ∈ row, Scal x) ∧ row.length ≤ 10
  | .str n rn cs b s => StrOk n ∧ StrOk rn ∧ StrsOk cs ∧ b ≤ 10000 ∧ s ≤ 10000
  | .lay n cs => StrOk n ∧ StrsOk cs
def namesB (cs : List Str) : List Int := listB (cs.map strB)
def fvB : Fv → List Int
  | .rel n cs r => 0 :: strB n ++ namesB cs ++ numB r
  | .fact n row => 1 :: strB n ++ rowB row
  | .str n rn cs b s => 2 :: strB n ++ strB rn ++ namesB cs ++ (numB b ++ numB s)
  | .lay n cs => 3 :: strB n ++ namesB cs
def FvAt (K : PySem.W.Frag) (H : Hp) (x : V) : Fv → Prop
  | .rel n cs r => ∃ a ct, x = .ref a ∧ SqT K H a [.str "relation", .str n, .ref ct, .int (r : Nat)] ∧ SqT K H ct (cs.map V.str)
  | .fact n row => ∃ a r, x = .ref a ∧ SqT K H a [.str "fact", .str n, .ref r] ∧ SqT K H r row
  | .str n rn cs b s => ∃ a ct, x = .ref a ∧ SqT K H a [.str "structure", .str n, .str rn, .ref ct, .int (b : Nat), .int (s : Nat)] ∧ SqT K H ct (cs.map V.str)
  | .lay n cs => ∃ a ct, x = .ref a ∧ SqT K H a [.str "layout", .str n, .ref ct] ∧ SqT K H ct (cs.map V.str)
theorem FvAt.tk {K : PySem.W.Frag} {H H' : Hp} {x : V} {v : Fv} (t : Tk K H H') (h : FvAt K H x v) : FvAt K H' x v := by
  cases v with
  | rel n cs r => obtain ⟨a, ct, e, h1, h2⟩ := h; exact ⟨a, ct, e, t _ _ h1, t _ _ h2⟩
  | fact n row => obtain ⟨a, ct, e, h1, h2⟩ := h; exact ⟨a, ct, e, t _ _ h1, t _ _ h2⟩
  | str n rn cs b s => obtain ⟨a, ct, e, h1, h2⟩ := h; exact ⟨a, ct, e, t _ _ h1, t _ _ h2⟩
  | lay n cs => obtain ⟨a, ct, e, h1, h2⟩ := h; exact ⟨a, ct, e, t _ _ h1, t _ _ h2⟩
/-- an item's parts by its value -/
def FvIt (K : PySem.W.Frag) (H : Hp) : It → Fv → Prop
  | .rel n c, .rel m cs r => n = m ∧ ∃ ct, c = [.ref ct, .int (r : Nat)] ∧ SqT K H ct (cs.map V.str)
  | .fact n _ row, .fact m row' => n = m ∧ row = row'
  | .str n c, .str m rn cs b s => n = m ∧ ∃ ct, c = [.str rn, .ref ct, .int (b : Nat), .int (s : Nat)] ∧ SqT K H ct (cs.map V.str)
  | .lay n v, .lay m cs => n = m ∧ ∃ ct, v = .ref ct ∧ SqT K H ct (cs.map V.str)
  | _, _ => False
theorem FvIt.tk {K : PySem.W.Frag} {H H' : Hp} {i : It} {v : Fv} (t : Tk K H H') (h : FvIt K H i v) : FvIt K H' i v := by
  cases i <;> cases v <;> try exact h
  · obtain ⟨e, ct, e2, h2⟩ := h; exact ⟨e, ct, e2, t _ _ h2⟩
  · obtain ⟨e, ct, e2, h2⟩ := h; exact ⟨e, ct, e2, t _ _ h2⟩
  · obtain ⟨e, ct, e2, h2⟩ := h; exact ⟨e, ct, e2, t _ _ h2⟩
theorem FvIt.at_ {K : PySem.W.Frag} {H : Hp} {a : Addr} {i : It} {v : Fv} (h : FvIt K H i v) (g : ItAt K H a i) : FvAt K H (.ref a) v := by
  cases i <;> cases v <;> try exact h.elim
  · obtain ⟨rfl, ct, rfl, h2⟩ := h; exact ⟨a, ct, rfl, g, h2⟩
  · obtain ⟨rfl, rfl⟩ := h; exact ⟨a, _, rfl, g.1, g.2.1⟩
  · obtain ⟨rfl, ct, rfl, h2⟩ := h; exact ⟨a, ct, rfl, g, h2⟩
  · obtain ⟨rfl, ct, rfl, h2⟩ := h; exact ⟨a, ct, rfl, g, h2⟩
theorem FvIt.ier {K : PySem.W.Frag} {H : Hp} {i j : It} {v : Fv} (e : ier i = ier j) (h : FvIt K H i v) : FvIt K H j v := by
  cases i <;> cases j <;> (try (exfalso; have h0 := congrArg (fun x => x.1) e; simp [K1.ier] at h0; done)) <;> cases v <;> try exact h.elim
  · have e1 := congrArg (fun x => x.2.1) e
    have e2 := congrArg (fun x => x.2.2.2) e
    simp only [K1.ier] at e1 e2
    subst e1 e2
    exact h
  · have e1 := congrArg (fun x => x.2.1) e
    have e2 := congrArg (fun x => x.2.2.1) e
    simp only [K1.ier] at e1 e2
    subst e1 e2
    exact h
  · have e1 := congrArg (fun x => x.2.1) e
    have e2 := congrArg (fun x => x.2.2.2) e
    simp only [K1.ier] at e1 e2
    subst e1 e2
    exact h
  · have e1 := congrArg (fun x => x.2.1) e
    have e2 := congrArg (fun x => x.2.2.2) e
    simp only [K1.ier] at e1 e2
    cases e2
    subst e1
    exact h
/-- items with values -/
def ItsV (K : PySem.W.Frag) (H : Hp) (its : Its) (vs : List Fv) : Prop := its.length = vs.length ∧ ∀ (i : Nat) (t : Addr × It) (v : Fv), its[i]? = some t → vs[i]? = some v → FvIt K H t.2 v ∧ FvOk v
def ItV (K : PySem.W.Frag) (H : Hp) (t : Addr × It) : Prop := ∃ v, FvIt K H t.2 v ∧ FvOk v
theorem ItV.tk {K : PySem.W.Frag} {H H' : Hp} {t : Addr × It} (k : Tk K H H') (h : ItV K H t) : ItV K H' t := by
  obtain ⟨v, h1, h2⟩ := h
  exact ⟨v, h1.tk k, h2⟩
theorem itsV_of {K : PySem.W.Frag} {H : Hp} : ∀ {its : Its}, (∀ t ∈ its, ItV K H t) → ∃ vs, ItsV K H its vs
  | [], _ => ⟨[], rfl, fun i t v e => by simp at e⟩
  | t :: its, h => by
    obtain ⟨v, h1, h2⟩ := h t List.mem_cons_self
    obtain ⟨vs, l, g⟩ := itsV_of (its := its) fun u m => h u (List.mem_cons_of_mem _ m)
    refine ⟨v :: vs, by rw [List.length_cons, List.length_cons, l], fun i u w e f => ?_⟩
    cases i with
    | zero =>
      cases e
      cases f
      exact ⟨h1, h2⟩
    | succ i => exact g i u w e f
/-! lengths -/
theorem strB_len4 {z : Str} (h : StrOk z) : (strB z).length ≤ 221 := strB_len h.2
theorem namesB_len {cs : List Str} (h : StrsOk cs) : (namesB cs).length ≤ 2231 := by
  have := listB_len (xs := cs.map strB) (b := 221) (fun x m => by
    obtain ⟨z, mz, e⟩ := List.mem_map.mp m
    rw [← e]
    exact strB_len4 (h.2 z mz)) (by rw [List.length_map]; have := h.1; omega)
  rw [List.length_map] at this
  have h1 := h.1
  unfold namesB
  have : cs.length * 221 ≤ 10 * 221 := Nat.mul_le_mul_right _ h1
  omega
theorem numB_len4 {n : Nat} (h : n ≤ 10000) : (numB n).length ≤ 21 := numB_20 (Nat.lt_of_le_of_lt h (by decide))
theorem fvB_len {v : Fv} (h : FvOk v) : (fvB v).length ≤ 4900 := by
  cases v with
  | rel n cs r =>
    obtain ⟨h1, h2, h3⟩ := h
    have a1 := strB_len4 h1
    have a2 := namesB_len h2
    have a3 := numB_len4 h3
    show (0 :: strB n ++ namesB cs ++ numB r).length ≤ _
    simp only [List.length_append, List.length_cons]
    omega
  | fact n row =>
    obtain ⟨h1, h2, h3⟩ := h
    have a1 := strB_len4 h1
    have a2 := rowB_len h2 h3
    show (1 :: strB n ++ rowB row).length ≤ _
    simp only [List.length_append, List.length_cons]
    omega
  | str n rn cs b s =>
    obtain ⟨h1, h2, h3, h4, h5⟩ := h
    have a1 := strB_len4 h1
    have a2 := strB_len4 h2
    have a3 := namesB_len h3
    have a4 := numB_len4 h4
    have a5 := numB_len4 h5
    show (2 :: strB n ++ strB rn ++ namesB cs ++ (numB b ++ numB s)).length ≤ _
    simp only [List.length_append, List.length_cons]
    omega
  | lay n cs =>
    obtain ⟨h1, h2⟩ := h
    have a1 := strB_len4 h1
    have a2 := namesB_len h2
    show (3 :: strB n ++ namesB cs).length ≤ _
    simp only [List.length_append, List.length_cons]
    omega
/-! changes -/
inductive Cv where
  | comes (v : Fv)
  | goes (s : Nat) (n : Str) (row : List V)
def CvOk : Cv → Prop
  | .comes v => FvOk v
  | .goes s n row => s < 4 ∧ StrOk n ∧ (∀ x ∈ row, Scal x) ∧ row.length ≤ 10
def cvB : Cv → List Int
  | .comes v => 0 :: fvB v
  | .goes s n row => 1 :: (s : Int) :: strB n ++ rowB row
def CvAt (K : PySem.W.Frag) (H : Hp) (x : V) : Cv → Prop
  | .comes v => ∃ a y, x = .ref a ∧ SqT K H a [.str "comes", y] ∧ FvAt K H y v
  | .goes s n row => ∃ a k r, x = .ref a ∧ SqT K H a [.str "goes", .ref k] ∧ SqT K H k [.int (s : Nat), .str n, .ref r] ∧ SqT K H r row
theorem CvAt.tk {K : PySem.W.Frag} {H H' : Hp} {x : V} {v : Cv} (t : Tk K H H') (h : CvAt K H x v) : CvAt K H' x v := by
  cases v with
  | comes v => obtain ⟨a, y, e, h1, h2⟩ := h; exact ⟨a, y, e, t _ _ h1, h2.tk t⟩
  | goes s n row => obtain ⟨a, k, r, e, h1, h2, h3⟩ := h; exact ⟨a, k, r, e, t _ _ h1, t _ _ h2, t _ _ h3⟩
theorem cvB_len {v : Cv} (h : CvOk v) : (cvB v).length ≤ 4950 := by
  cases v with
  | comes v =>
    have := fvB_len h
    show (0 :: fvB v).length ≤ _
    simp only [List.length_cons]
    omega
  | goes s n row =>
    obtain ⟨_, h1, h2, h3⟩ := h
    have a1 := strB_len4 h1
    have a2 := rowB_len h2 h3
    show (1 :: (s : Int) :: strB n ++ rowB row).length ≤ _
    simp only [List.length_append, List.length_cons]
    omega
end K1
namespace K1
open PySem PySem.Spec PyProof.Rows L2 Ow Tlz
/-! two rows of items that tell the same values -/
def Tw (K : PySem.W.Frag) (H : Hp) (t u : Addr × It) : Prop := ∃ v, FvOk v ∧ FvIt K H t.2 v ∧ FvIt K H u.2 v
inductive Twl (K : PySem.W.Frag) (H : Hp) : Its → Its → Prop
  | nil : Twl K H [] []
  | cons {t u : Addr × It} {ts us : Its} : Tw K H t u → Twl K H ts us → Twl K H (t :: ts) (u :: us)
section
variable {K : PySem.W.Frag} {H : Hp}
theorem Tw.tk {H' : Hp} {t u : Addr × It} (k : Tk K H H') (h : Tw K H t u) : Tw K H' t u := by
  obtain ⟨v, o, a, b⟩ := h
  exact ⟨v, o, a.tk k, b.tk k⟩
theorem Tw.symm {t u : Addr × It} (h : Tw K H t u) : Tw K H u t := by
  obtain ⟨v, o, a, b⟩ := h
  exact ⟨v, o, b, a⟩
theorem Twl.tk {H' : Hp} {ts us : Its} (k : Tk K H H') (h : Twl K H ts us) : Twl K H' ts us := by
  induction h with
  | nil => exact .nil
  | cons a _ ih => exact .cons (a.tk k) ih
theorem Twl.symm {ts us : Its} (h : Twl K H ts us) : Twl K H us ts := by
  induction h with
  | nil => exact .nil
  | cons a _ ih => exact .cons a.symm ih
theorem Twl.len {ts us : Its} (h : Twl K H ts us) : ts.length = us.length := by
  induction h with
  | nil => rfl
  | cons _ _ ih => rw [List.length_cons, List.length_cons, ih]
theorem Twl.mem {ts us : Its} (h : Twl K H ts us) {u : Addr × It} (m : u ∈ us) : ∃ t ∈ ts, Tw K H t u := by
  induction h with
  | nil => cases m
  | cons a _ ih =>
    rcases List.mem_cons.mp m with z | m
    · rw [z]; exact ⟨_, List.mem_cons_self, a⟩
    · obtain ⟨t, mt, g⟩ := ih m
      exact ⟨t, List.mem_cons_of_mem _ mt, g⟩
theorem Twl.of : ∀ {ts us : Its} {fs : List Fv}, ItsV K H us fs → ts.length = us.length → (∀ (i : Nat) (t : Addr × It) (v : Fv), ts[i]? = some t → fs[i]? = some v → FvIt K H t.2 v) → Twl K H ts us
  | [], [], _, _, _, _ => .nil
  | [], _ :: _, _, _, l, _ => by cases l
  | _ :: _, [], _, _, l, _ => by cases l
  | t :: ts, u :: us, fs, ⟨l2, g⟩, l, h => by
    cases fs with
    | nil => cases l2
    | cons v fs =>
      obtain ⟨a, b⟩ := g 0 u v rfl rfl
      exact .cons ⟨v, b, h 0 t v rfl rfl, a⟩ (Twl.of (fs := fs) ⟨Nat.succ.inj l2, fun i t' v' e f => g (i + 1) t' v' e f⟩ (Nat.succ.inj l) fun i t' v' e f => h (i + 1) t' v' e f)
theorem FvIt.key {i j : It} {v : Fv} (h : FvIt K H i v) (g : FvIt K H j v) : (K1.ier i).1 = (K1.ier j).1 ∧ (K1.ier i).2.1 = (K1.ier j).2.1 ∧ (K1.ier i).2.2.1 = (K1.ier j).2.2.1 := by
  cases i <;> cases v <;> (try exact h.elim) <;> cases j <;> (try exact g.elim)
  · exact ⟨rfl, h.1.trans g.1.symm, rfl⟩
  · exact ⟨rfl, h.1.trans g.1.symm, h.2.trans g.2.symm⟩
  · exact ⟨rfl, h.1.trans g.1.symm, rfl⟩
  · exact ⟨rfl, h.1.trans g.1.symm, rfl⟩
theorem Tw.ord {t u t' u' : Addr × It} (h : Tw K H t u) (g : Tw K H t' u') : tOrd (te t) (te t') = tOrd (te u) (te u') := by
  obtain ⟨v, _, a, b⟩ := h
  obtain ⟨v', _, a', b'⟩ := g
  obtain ⟨e1, e2, e3⟩ := a.key b
  obtain ⟨f1, f2, f3⟩ := a'.key b'
  unfold tOrd te
  rw [e1, e2, e3, f1, f2, f3]
theorem Twl.filter {P Q : Addr × It → Bool} {ts us : Its} (h : Twl K H ts us) (e : ∀ t u, Tw K H t u → P t = Q u) : Twl K H (ts.filter P) (us.filter Q) := by
  induction h with
  | nil => exact .nil
  | cons a _ ih =>
    rw [List.filter_cons, List.filter_cons, e _ _ a]
    split
    · exact .cons a ih
    · exact ih
theorem Twl.count {P Q : Addr × It → Bool} {ts us : Its} (h : Twl K H ts us) (e : ∀ t u, Tw K H t u → P t = Q u) : ts.countP P = us.countP Q := by
  induction h with
  | nil => rfl
  | cons a _ ih => rw [List.countP_cons, List.countP_cons, e _ _ a, ih]
theorem Twl.take {ts us : Its} (h : Twl K H ts us) : ∀ n, Twl K H (ts.take n) (us.take n) := by
  induction h with
  | nil => intro n; rw [List.take_nil]; exact .nil
  | cons a _ ih =>
    intro n
    cases n with
    | zero => exact .nil
    | succ n => exact .cons a (ih n)
theorem Twl.drop {ts us : Its} (h : Twl K H ts us) : ∀ n, Twl K H (ts.drop n) (us.drop n) := by
  induction h with
  | nil => intro n; rw [List.drop_nil]; exact .nil
  | cons a b ih =>
    intro n
    cases n with
    | zero => exact .cons a b
    | succ n => exact ih n
theorem Twl.app {ts us ts' us' : Its} (h : Twl K H ts us) (g : Twl K H ts' us') : Twl K H (ts ++ ts') (us ++ us') := by
  induction h with
  | nil => exact g
  | cons a _ ih => exact .cons a ih
theorem Twl.plc {ts us : Its} {t u : Addr × It} (h : Twl K H ts us) (g : Tw K H t u) : Twl K H (plc ts t) (plc us u) := by
  unfold K1.plc
  rw [h.count (P := fun x => decide (tOrd (te x) (te t) < 0)) (Q := fun x => decide (tOrd (te x) (te u) < 0)) fun a b w => by rw [w.ord g]]
  have f := h.filter (P := fun x => decide (tOrd (te x) (te t) ≠ 0)) (Q := fun x => decide (tOrd (te x) (te u) ≠ 0)) fun a b w => by rw [w.ord g]
  exact ((f.take _).app (.cons g .nil)).app (f.drop _)
theorem Twl.foldl {ts us : Its} (h : Twl K H ts us) : ∀ {os os' : Its}, Twl K H os os' → Twl K H (ts.foldl K1.plc os) (us.foldl K1.plc os') := by
  induction h with
  | nil => exact fun g => g
  | cons a _ ih => exact fun g => ih (g.plc a)
theorem Twl.plcAll {ts us : Its} (h : Twl K H ts us) : Twl K H (K1.plcAll ts) (K1.plcAll us) := h.foldl .nil
theorem Twl.te : ∀ {is ts us : Its}, is.map te = ts.map te → Twl K H ts us → Twl K H is us
  | [], _, _, e, .nil => .nil
  | _ :: _, _, _, e, .nil => by cases e
  | [], _, _, e, .cons _ _ => by cases e
  | i :: is, _, _, e, .cons ⟨v, o, a, b⟩ h => by
    rw [List.map_cons, List.map_cons] at e
    exact .cons ⟨v, o, a.ier (List.cons.inj e).1.symm, b⟩ (Twl.te (List.cons.inj e).2 h)
/-! the data of an item by its value -/
def fvD : Fv → List PyData
  | .rel _ cs r => [.tuple (cs.map PyData.str), .int (r : Nat)]
  | .fact _ _ => []
  | .str _ rn cs b s => [.str rn, .tuple (cs.map PyData.str), .int (b : Nat), .int (s : Nat)]
  | .lay _ cs => [.tuple (cs.map PyData.str)]
theorem strD : ∀ cs : List Str, DpAll K H (cs.map V.str) (cs.map PyData.str)
  | [] => .nil
  | c :: cs => .cons (.str c) (strD cs)
theorem FvIt.dp {i : It} {v : Fv} (h : FvIt K H i v) : DpAll K H (cnt i) (fvD v) := by
  cases i <;> cases v <;> (try exact h.elim)
  · obtain ⟨_, ct, rfl, h2⟩ := h
    exact .cons (.tup h2 (strD _)) (.cons (.int _) .nil)
  · exact .nil
  · obtain ⟨_, ct, rfl, h2⟩ := h
    exact .cons (.str _) (.cons (.tup h2 (strD _)) (.cons (.int _) (.cons (.int _) .nil)))
  · obtain ⟨_, ct, rfl, h2⟩ := h
    exact .cons (.tup h2 (strD _)) .nil
theorem strs_gd {cs : List Str} (h : StrsOk cs) : Gd 1 (.tuple (cs.map PyData.str)) := Gd.tup (by rw [List.length_map]; have := h.1; omega) fun d m => by
  obtain ⟨z, mz, rfl⟩ := List.mem_map.mp m
  exact Gd.str (h.2 z mz).1
theorem fvD_gd {v : Fv} (o : FvOk v) : (∀ d ∈ fvD v, Gd 1 d) ∧ (fvD v).length ≤ 10 := by
  cases v with
  | rel n cs r =>
    refine ⟨fun d m => ?_, by show 2 ≤ 10; decide⟩
    simp only [fvD, List.mem_cons, List.not_mem_nil, or_false] at m
    rcases m with z | z <;> rw [z]
    · exact strs_gd o.2.1
    · exact (Gd.int _).up (by omega)
  | fact n row => exact ⟨fun d m => (by cases m), Nat.zero_le _⟩
  | str n rn cs b s =>
    refine ⟨fun d m => ?_, by show 4 ≤ 10; decide⟩
    simp only [fvD, List.mem_cons, List.not_mem_nil, or_false] at m
    rcases m with z | z | z | z <;> rw [z]
    · exact (Gd.str o.2.1.1).up (by omega)
    · exact strs_gd o.2.2.1
    · exact (Gd.int _).up (by omega)
    · exact (Gd.int _).up (by omega)
  | lay n cs =>
    refine ⟨fun d m => ?_, by show 1 ≤ 10; decide⟩
    simp only [fvD, List.mem_cons, List.not_mem_nil, or_false] at m
    rw [m]
    exact strs_gd o.2
theorem tw_data {a b : Addr} {i j : It} {v : Fv} (h : ItAt K H a i) (g : ItAt K H b j) (o : FvOk v) (hi : FvIt K H i v) (hj : FvIt K H j v) : ∃ d, Dp K H (.ref a) d ∧ Dp K H (.ref b) d ∧ Gd 2 d := by
  have pw : ∀ w : String, (w = "relation" ∨ w = "fact" ∨ w = "structure" ∨ w = "layout") → Pr (PySem.Str.ofString w) := fun w hw => by
    rcases hw with rfl | rfl | rfl | rfl <;> decide +kernel
  have d1 := hi.dp
  have d2 := hj.dp
  obtain ⟨gd, gl⟩ := fvD_gd o
  have two : ∀ {w n : Str} {ds : List PyData}, Pr w → Pr n → (∀ d ∈ ds, Gd 1 d) → ds.length ≤ 10 → Gd 2 (.tuple (.str w :: .str n :: ds)) := fun {w n ds} p1 p2 h l => by
    refine Gd.tup (k := 1) (by rw [List.length_cons, List.length_cons]; omega) fun d m => ?_
    rcases List.mem_cons.mp m with z | m
    · rw [z]; exact (Gd.str p1).up (by omega)
    · rcases List.mem_cons.mp m with z | m
      · rw [z]; exact (Gd.str p2).up (by omega)
      · exact h d m
  cases v with
  | rel n cs r =>
    cases i <;> (try exact hi.elim)
    cases j <;> (try exact hj.elim)
    obtain ⟨rfl, _⟩ := hi
    obtain ⟨rfl, _⟩ := hj
    exact ⟨_, .tup h (.cons (.str _) (.cons (.str _) d1)), .tup g (.cons (.str _) (.cons (.str _) d2)), two (pw "relation" (.inl rfl)) o.1.1 gd gl⟩
  | str n rn cs b s =>
    cases i <;> (try exact hi.elim)
    cases j <;> (try exact hj.elim)
    obtain ⟨rfl, _⟩ := hi
    obtain ⟨rfl, _⟩ := hj
    exact ⟨_, .tup h (.cons (.str _) (.cons (.str _) d1)), .tup g (.cons (.str _) (.cons (.str _) d2)), two (pw "structure" (.inr (.inr (.inl rfl)))) o.1.1 gd gl⟩
  | lay n cs =>
    cases i <;> (try exact hi.elim)
    cases j <;> (try exact hj.elim)
    obtain ⟨rfl, _⟩ := hi
    obtain ⟨rfl, _⟩ := hj
    exact ⟨_, .tup h (.cons (.str _) (.cons (.str _) d1)), .tup g (.cons (.str _) (.cons (.str _) d2)), two (pw "layout" (.inr (.inr (.inr rfl)))) o.1.1 gd gl⟩
  | fact n row =>
    cases i <;> (try exact hi.elim)
    cases j <;> (try exact hj.elim)
    obtain ⟨rfl, rfl⟩ := hi
    obtain ⟨rfl, rfl⟩ := hj
    obtain ⟨h1, h2, h3, h4⟩ := h
    obtain ⟨g1, g2, _, _⟩ := g
    refine ⟨.tuple [.str "fact", .str _, rowD _], .tup h1 (.cons (.str _) (.cons (.str _) (.cons (.tup h2 (sc_dp h3)) .nil))), .tup g1 (.cons (.str _) (.cons (.str _) (.cons (.tup g2 (sc_dp h3)) .nil))), ?_⟩
    refine Gd.tup (by show 3 ≤ 1000; decide) fun d m => ?_
    simp only [List.mem_cons, List.not_mem_nil, or_false] at m
    rcases m with z | z | z
    · rw [z]; exact (Gd.str (pw "fact" (.inr (.inl rfl)))).up (by omega)
    · rw [z]; exact (Gd.str o.1.1).up (by omega)
    · rw [z]; exact Gd.row h3 (by omega)
theorem Twl.data {ts us : Its} (h : Twl K H ts us) : ItsG K H ts → ItsG K H us → ∃ ds, DpAll K H (irf ts) ds ∧ DpAll K H (irf us) ds ∧ ∀ d ∈ ds, Gd 2 d := by
  induction h with
  | nil => exact fun _ _ => ⟨[], .nil, .nil, fun _ m => nomatch m⟩
  | @cons t u ts us a _ ih =>
    intro g1 g2
    obtain ⟨ds, a1, a2, a3⟩ := ih (fun x m => g1 x (List.mem_cons_of_mem _ m)) (fun x m => g2 x (List.mem_cons_of_mem _ m))
    obtain ⟨v, o, b1, b2⟩ := a
    obtain ⟨d, p, q, r⟩ := tw_data (g1 t List.mem_cons_self).at_ (g2 u List.mem_cons_self).at_ o b1 b2
    refine ⟨d :: ds, .cons p a1, .cons q a2, fun x m => ?_⟩
    rcases List.mem_cons.mp m with z | m
    · rw [z]; exact r
    · exact a3 x m
/-! tables that tell the same values -/
theorem some_of {β : Type} {T : List (Str × β)} {n : Str} {P : β → Prop} (h : ∀ b, valG T n = some b → P b) (g : (∃ b, P b) → ∃ b, valG T n = some b) : (valG T n).isSome = true ↔ ∃ b, P b := by
  refine ⟨fun e => ?_, fun w => ?_⟩
  · cases z : valG T n with
    | none => rw [z] at e; cases e
    | some b => exact ⟨b, h b z⟩
  · obtain ⟨b, e⟩ := g w
    rw [e]
    rfl
variable {os os2 : Its} {R S R' S' : Tb} {F F' : Fb} {L L' : List (Str × V)}
theorem Twl.hasR (t : Twl K H os2 os) {n : Str} {c : List V} (h : Has os (.rel n c)) : ∃ c2, Has os2 (.rel n c2) ∧ ∃ v, FvOk v ∧ DpAll K H c2 (fvD v) ∧ DpAll K H c (fvD v) := by
  obtain ⟨a, m⟩ := h
  obtain ⟨⟨b, j⟩, mj, v, o, h1, h2⟩ := t.mem m
  have d1 := h1.dp
  have d2 := h2.dp
  cases v <;> (try exact h2.elim)
  cases j <;> (try exact h1.elim)
  obtain ⟨rfl, _⟩ := h1
  obtain ⟨rfl, _⟩ := h2
  exact ⟨_, ⟨b, mj⟩, _, o, d1, d2⟩
theorem Twl.hasS (t : Twl K H os2 os) {n : Str} {c : List V} (h : Has os (.str n c)) : ∃ c2, Has os2 (.str n c2) ∧ ∃ v, FvOk v ∧ DpAll K H c2 (fvD v) ∧ DpAll K H c (fvD v) := by
  obtain ⟨a, m⟩ := h
  obtain ⟨⟨b, j⟩, mj, v, o, h1, h2⟩ := t.mem m
  have d1 := h1.dp
  have d2 := h2.dp
  cases v <;> (try exact h2.elim)
  cases j <;> (try exact h1.elim)
  obtain ⟨rfl, _⟩ := h1
  obtain ⟨rfl, _⟩ := h2
  exact ⟨_, ⟨b, mj⟩, _, o, d1, d2⟩
theorem Twl.hasL (t : Twl K H os2 os) {n : Str} {c : V} (h : Has os (.lay n c)) : ∃ c2, Has os2 (.lay n c2) ∧ ∃ d, Gd 1 d ∧ Dp K H c2 d ∧ Dp K H c d := by
  obtain ⟨a, m⟩ := h
  obtain ⟨⟨b, j⟩, mj, v, o, h1, h2⟩ := t.mem m
  cases v <;> (try exact h2.elim)
  cases j <;> (try exact h1.elim)
  obtain ⟨rfl, ct, rfl, e1⟩ := h1
  obtain ⟨rfl, ct2, rfl, e2⟩ := h2
  exact ⟨_, ⟨b, mj⟩, _, strs_gd o.2, .tup e1 (strD _), .tup e2 (strD _)⟩
theorem Twl.hasF (t : Twl K H os2 os) {n : Str} {row : List V} (h : ∃ r, Has os (.fact n r row)) : ∃ r, Has os2 (.fact n r row) := by
  obtain ⟨r, a, m⟩ := h
  obtain ⟨⟨b, j⟩, mj, v, o, h1, h2⟩ := t.mem m
  cases v <;> (try exact h2.elim)
  cases j <;> (try exact h1.elim)
  obtain ⟨rfl, rfl⟩ := h1
  obtain ⟨rfl, rfl⟩ := h2
  exact ⟨_, b, mj⟩
theorem Twl.eqR (t : Twl K H os2 os) (h : Rep os2 R F S L) (h' : Rep os R' F' S' L') : R.length = R'.length ∧ ∀ n q c, valG R' n = some (q, c) → ∃ q' c' v, valG R n = some (q', c') ∧ FvOk v ∧ DpAll K H c' (fvD v) ∧ DpAll K H c (fvD v) := by
  have key : ∀ n q c, valG R' n = some (q, c) → ∃ q' c' v, valG R n = some (q', c') ∧ FvOk v ∧ DpAll K H c' (fvD v) ∧ DpAll K H c (fvD v) := fun n q c e => by
    obtain ⟨c2, h2, v, o, d1, d2⟩ := t.hasR ((h'.r n c).mp ⟨q, e⟩)
    obtain ⟨q2, e2⟩ := (h.r n c2).mpr h2
    exact ⟨q2, c2, v, e2, o, d1, d2⟩
  have key2 : ∀ n q c, valG R n = some (q, c) → ∃ b, valG R' n = some b := fun n q c e => by
    obtain ⟨c2, h2, _⟩ := t.symm.hasR ((h.r n c).mp ⟨q, e⟩)
    obtain ⟨q2, e2⟩ := (h'.r n c2).mpr h2
    exact ⟨_, e2⟩
  refine ⟨keys_len h.rn h'.rn fun n => ?_, key⟩
  cases e : valG R n with
  | none =>
    cases e' : valG R' n with
    | none => rfl
    | some b =>
      obtain ⟨q', c', v, z, _⟩ := key n b.1 b.2 e'
      rw [e] at z
      cases z
  | some b =>
    obtain ⟨b', z⟩ := key2 n b.1 b.2 e
    rw [z]
    rfl
theorem Twl.eqS (t : Twl K H os2 os) (h : Rep os2 R F S L) (h' : Rep os R' F' S' L') : S.length = S'.length ∧ ∀ n q c, valG S' n = some (q, c) → ∃ q' c' v, valG S n = some (q', c') ∧ FvOk v ∧ DpAll K H c' (fvD v) ∧ DpAll K H c (fvD v) := by
  have key : ∀ n q c, valG S' n = some (q, c) → ∃ q' c' v, valG S n = some (q', c') ∧ FvOk v ∧ DpAll K H c' (fvD v) ∧ DpAll K H c (fvD v) := fun n q c e => by
    obtain ⟨c2, h2, v, o, d1, d2⟩ := t.hasS ((h'.s n c).mp ⟨q, e⟩)
    obtain ⟨q2, e2⟩ := (h.s n c2).mpr h2
    exact ⟨q2, c2, v, e2, o, d1, d2⟩
  have key2 : ∀ n q c, valG S n = some (q, c) → ∃ b, valG S' n = some b := fun n q c e => by
    obtain ⟨c2, h2, _⟩ := t.symm.hasS ((h.s n c).mp ⟨q, e⟩)
    obtain ⟨q2, e2⟩ := (h'.s n c2).mpr h2
    exact ⟨_, e2⟩
  refine ⟨keys_len h.sn h'.sn fun n => ?_, key⟩
  cases e : valG S n with
  | none =>
    cases e' : valG S' n with
    | none => rfl
    | some b =>
      obtain ⟨q', c', v, z, _⟩ := key n b.1 b.2 e'
      rw [e] at z
      cases z
  | some b =>
    obtain ⟨b', z⟩ := key2 n b.1 b.2 e
    rw [z]
    rfl
theorem Twl.eqL (t : Twl K H os2 os) (h : Rep os2 R F S L) (h' : Rep os R' F' S' L') : L.length = L'.length ∧ ∀ n v, valG L' n = some v → ∃ v' d, valG L n = some v' ∧ Gd 1 d ∧ Dp K H v' d ∧ Dp K H v d := by
  have key : ∀ n v, valG L' n = some v → ∃ v' d, valG L n = some v' ∧ Gd 1 d ∧ Dp K H v' d ∧ Dp K H v d := fun n v e => by
    obtain ⟨c2, h2, d, o, d1, d2⟩ := t.hasL ((h'.l n v).mp e)
    exact ⟨c2, d, (h.l n c2).mpr h2, o, d1, d2⟩
  have key2 : ∀ n v, valG L n = some v → ∃ b, valG L' n = some b := fun n v e => by
    obtain ⟨c2, h2, _⟩ := t.symm.hasL ((h.l n v).mp e)
    exact ⟨_, (h'.l n c2).mpr h2⟩
  refine ⟨keys_len h.ln h'.ln fun n => ?_, key⟩
  cases e : valG L n with
  | none =>
    cases e' : valG L' n with
    | none => rfl
    | some b =>
      obtain ⟨v', d, z, _⟩ := key n b e'
      rw [e] at z
      cases z
  | some b =>
    obtain ⟨b', z⟩ := key2 n b e
    rw [z]
    rfl
theorem Twl.eqF (t : Twl K H os2 os) (h : Rep os2 R F S L) (h' : Rep os R' F' S' L') : F.length = F'.length ∧ ∀ n q rs, valG F' n = some (q, rs) → ∃ q' rs', valG F n = some (q', rs') ∧ rs'.map (·.2) = rs.map (·.2) := by
  have sm : ∀ n, (valG F n).isSome = (valG F' n).isSome := fun n => Bool.eq_iff_iff.mpr (by
    rw [h.fn, h'.fn]
    refine ⟨fun w => ?_, fun w => ?_⟩
    · rcases w with ⟨c, w⟩ | ⟨r, row, w⟩
      · obtain ⟨c2, w2, _⟩ := t.symm.hasR w
        exact .inl ⟨c2, w2⟩
      · obtain ⟨r2, w2⟩ := t.symm.hasF ⟨r, w⟩
        exact .inr ⟨r2, row, w2⟩
    · rcases w with ⟨c, w⟩ | ⟨r, row, w⟩
      · obtain ⟨c2, w2, _⟩ := t.hasR w
        exact .inl ⟨c2, w2⟩
      · obtain ⟨r2, w2⟩ := t.hasF ⟨r, w⟩
        exact .inr ⟨r2, row, w2⟩)
  refine ⟨keys_len h.fd h'.fd sm, fun n q rs e => ?_⟩
  have z := sm n
  rw [e] at z
  cases e2 : valG F n with
  | none => rw [e2] at z; cases z
  | some b =>
    refine ⟨b.1, b.2, rfl, rows_eq (h.fs _ _ _ e2) (h'.fs _ _ _ e) fun row => ?_⟩
    have a1 := h.f n row
    have a2 := h'.f n row
    rw [e2] at a1
    rw [e] at a2
    refine ⟨fun w => ?_, fun w => ?_⟩
    · obtain ⟨q3, rs3, e3, w3⟩ := a2.mpr (t.symm.hasF (a1.mp ⟨_, _, rfl, w⟩))
      cases e3
      exact w3
    · obtain ⟨q3, rs3, e3, w3⟩ := a1.mpr (t.hasF (a2.mp ⟨_, _, rfl, w⟩))
      cases e3
      exact w3
end
end K1
/-! dicts whose keys are tuples of numbers, texts and tuples: the dict's own object is told, its keys' tuples stand in the heap -/
namespace Ow
open PySem PySem.Spec PyProof.Rows L2
/-- a thing that is the object o -/
def exO (d : Addr) (o : Obj) : HO := .ext fun h => h.get? d = some o
theorem exO_ok {P : Program} {w : World} {H : Hp} {h : Heap} {d : Addr} {o : Obj} (e : h.get? d = some o) : ObjOk P w H h d (exO d o) := by
  show ObjOk P w H h d (.ext fun h => h.get? d = some o)
  unfold ObjOk
  exact ⟨e, ⟨o, e⟩, fun _ _ a b => b _ a⟩
theorem exO_get {P : Program} {w : World} {H : Hp} {h : Heap} {d : Addr} {o : Obj} (k : HOk P w H h) (e : H d = some (exO d o)) : h.get? d = some o := by
  have z := k d _ e
  unfold exO ObjOk at z
  exact z.1
abbrev NE := NestedKey × Addr × V
inductive NRel : List NE → List (NestedKey × Addr × Value) → Prop
  | nil : NRel [] []
  | cons {k : NestedKey} {b : Addr} {v : V} {u : Value} {xs : List NE} {ys : List (NestedKey × Addr × Value)} : RelV v u → NRel xs ys → NRel ((k, b, v) :: xs) ((k, b, u) :: ys)
theorem NRel.len {xs : List NE} {ys : List (NestedKey × Addr × Value)} (h : NRel xs ys) : xs.length = ys.length := by
  induction h with
  | nil => rfl
  | cons _ _ ih => rw [List.length_cons, List.length_cons, ih]
theorem NRel.mem {xs : List NE} {ys : List (NestedKey × Addr × Value)} (h : NRel xs ys) {y : NestedKey × Addr × Value} (m : y ∈ ys) : ∃ v, (y.1, y.2.1, v) ∈ xs := by
  induction h with
  | nil => cases m
  | @cons k b v u xs ys r _ ih =>
    rcases List.mem_cons.mp m with z | m
    · exact ⟨v, by rw [z]; exact List.mem_cons_self⟩
    · obtain ⟨v', g⟩ := ih m
      exact ⟨v', List.mem_cons_of_mem _ g⟩
theorem NRel.get {xs : List NE} {ys : List (NestedKey × Addr × Value)} (h : NRel xs ys) : ∀ {i : Nat} {x : NE}, xs[i]? = some x → ∃ u, ys[i]? = some (x.1, x.2.1, u) ∧ RelV x.2.2 u := by
  induction h with
  | nil => intro i x e; simp at e
  | @cons k b v u xs ys r _ ih =>
    intro i x e
    cases i with
    | zero => cases e; exact ⟨u, rfl, r⟩
    | succ i => exact ih (i := i) e
/-- the value at a key -/
def atN (xs : List NE) (k : NestedKey) : Option V := (xs.find? fun e => decide (e.1 = k)).map fun e => e.2.2
theorem NRel.at_ {xs : List NE} {ys : List (NestedKey × Addr × Value)} (h : NRel xs ys) (k : NestedKey) : (atN xs k = none ∧ atKey ys k = none) ∨ ∃ v b u, atN xs k = some v ∧ atKey ys k = some (b, u) ∧ RelV v u := by
  induction h with
  | nil => exact .inl ⟨rfl, rfl⟩
  | @cons k' b v u xs ys r _ ih =>
    by_cases z : k' = k
    · refine .inr ⟨v, b, u, ?_, ?_, r⟩
      · unfold atN
        rw [List.find?_cons, decide_eq_true z]
        rfl
      · unfold atKey
        rw [List.find?_cons, decide_eq_true z]
        rfl
    · have e1 : atN ((k', b, v) :: xs) k = atN xs k := by
        unfold atN
        rw [List.find?_cons, decide_eq_false z]
      have e2 : atKey ((k', b, u) :: ys) k = atKey ys k := by
        unfold atKey
        rw [List.find?_cons, decide_eq_false z]
      rw [e1, e2]
      exact ih
theorem NRel.some_ {xs : List NE} {ys : List (NestedKey × Addr × Value)} (h : NRel xs ys) (k : NestedKey) : (atKey ys k).isSome = (atN xs k).isSome := by
  rcases h.at_ k with ⟨a, b⟩ | ⟨v, b, u, e1, e2, _⟩
  · rw [a, b]; rfl
  · rw [e1, e2]; rfl
/-- a key stored -/
def putN (xs : List NE) (k : NestedKey) (b : Addr) (v : V) : List NE := if (atN xs k).isSome = true then xs.map (fun e => if e.1 = k then (e.1, e.2.1, v) else e) else xs ++ [(k, b, v)]
theorem NRel.put {xs : List NE} {ys : List (NestedKey × Addr × Value)} (h : NRel xs ys) (k : NestedKey) (b : Addr) {v : V} {u : Value} (r : RelV v u) : NRel (putN xs k b v) (storedH ys k b u) := by
  unfold putN storedH
  rw [h.some_ k]
  have m : ∀ {xs : List NE} {ys : List (NestedKey × Addr × Value)}, NRel xs ys → NRel (xs.map (fun e => if e.1 = k then (e.1, e.2.1, v) else e)) (ys.map (putAt k u)) := by
    intro xs ys h
    induction h with
    | nil => exact .nil
    | @cons k' b' v' u' xs ys r' _ ih =>
      rw [List.map_cons, List.map_cons]
      unfold putAt
      by_cases z : k' = k
      · rw [if_pos z, if_pos z]
        exact .cons r ih
      · rw [if_neg z, if_neg z]
        exact .cons r' ih
  have a : ∀ {xs : List NE} {ys : List (NestedKey × Addr × Value)}, NRel xs ys → NRel (xs ++ [(k, b, v)]) (ys ++ [(k, b, u)]) := by
    intro xs ys h
    induction h with
    | nil => exact .cons r .nil
    | cons r' _ ih => exact .cons r' ih
  by_cases z : (atN xs k).isSome = true
  · rw [if_pos z, if_pos z]
    exact m h
  · rw [if_neg z, if_neg z]
    exact a h
theorem putN_len (xs : List NE) (k : NestedKey) (b : Addr) (v : V) : (putN xs k b v).length ≤ xs.length + 1 := by
  unfold putN
  split
  · rw [List.length_map]; omega
  · rw [List.length_append]; exact Nat.le_refl _
/-- what the object o of a dict at d tells -/
structure NOk (P : Program) (w : World) (d : Addr) (o : Obj) (xs : List NE) : Prop where
  len : xs.length ≤ sizeLine
  sys : (d == sysModules) = false
  ex : ∃ ys es ep, NRel xs ys ∧ o.ExactDict ∧ o.data = .dict es ep ∧ es.toList = ys.map (entryOfKey (nestedKind P w)) ∧ (ys.map (·.1)).Nodup
/-! keys -/
mutual
inductive Nk (K : PySem.W.Frag) (H : Hp) : V → NestedKey → Prop
  | non : Nk K H .non .none
  | int (i : Int) : Nk K H (.int i) (.num i)
  | str (z : Str) : Nk K H (.str z) (.text z)
  | tup {a : Addr} {xs : List V} {ks : List NestedKey} : SqT K H a xs → NkL K H xs ks → Nk K H (.ref a) (.tup ks)
inductive NkL (K : PySem.W.Frag) (H : Hp) : List V → List NestedKey → Prop
  | nil : NkL K H [] []
  | cons {v : V} {k : NestedKey} {vs : List V} {ks : List NestedKey} : Nk K H v k → NkL K H vs ks → NkL K H (v :: vs) (k :: ks)
end
section
variable {X : Cx} {pins : List (Addr × Obj)} {σ : L2.St} {H : Hp} {s : Shared}
mutual
theorem Nk.is (I : L2.Inv X pins σ H s) : ∀ (k : NestedKey) (v : V), Nk X.K H v k → ∀ u, RelV v u → NestedIs s.heap k u
  | .none, _, .non, u, r => by
    obtain rfl : u = Value.none := r
    exact .none
  | .num _, _, .int i, u, r => by
    obtain ⟨t, rfl⟩ := r
    exact .int i t
  | .text _, _, .str z, u, r => by
    obtain ⟨t, rfl⟩ := r
    exact .text z t
  | .tup ks, _, .tup sq l, u, r => by
    obtain rfl : u = Value.ref _ := r
    obtain ⟨its, hv, ⟨o, e, c, n, dd⟩, _⟩ := I.tuple sq
    exact .tup e c dd (NkL.is I ks _ l _ (by simpa using hv))
theorem NkL.is (I : L2.Inv X pins σ H s) : ∀ (ks : List NestedKey) (vs : List V), NkL X.K H vs ks → ∀ us, Vals vs us → NestedAll s.heap ks us
  | [], _, .nil, _, .nil => .nil
  | k :: ks, _, .cons a b, _, .cons r rr => .cons (Nk.is I k _ a _ r) (NkL.is I ks _ b _ rr)
end
end
mutual
theorem Nk.tk {K : PySem.W.Frag} {H H' : Hp} (t : ∀ a xs, SqT K H a xs → SqT K H' a xs) : ∀ (k : NestedKey) (v : V), Nk K H v k → Nk K H' v k
  | .none, _, .non => .non
  | .num _, _, .int i => .int i
  | .text _, _, .str z => .str z
  | .tup ks, _, .tup sq l => .tup (t _ _ sq) (NkL.tk t ks _ l)
theorem NkL.tk {K : PySem.W.Frag} {H H' : Hp} (t : ∀ a xs, SqT K H a xs → SqT K H' a xs) : ∀ (ks : List NestedKey) (vs : List V), NkL K H vs ks → NkL K H' vs ks
  | [], _, .nil => .nil
  | k :: ks, _, .cons a b => .cons (Nk.tk t k _ a) (NkL.tk t ks _ b)
end
/-- the key k stands at a -/
def NkA (K : PySem.W.Frag) (H : Hp) (a : Addr) (k : NestedKey) : Prop := Nk K H (.ref a) k ∧ k.depth ≤ 8
/-- a dict at d with the entries xs -/
structure DN (P : Program) (w : World) (K : PySem.W.Frag) (H : Hp) (d : Addr) (o : Obj) (xs : List NE) : Prop where
  at_ : H d = some (exO d o)
  ok : NOk P w d o xs
  ks : ∀ e ∈ xs, NkA K H e.2.1 e.1
section
variable {X : Cx} {pins : List (Addr × Obj)} {σ : L2.St} {H : Hp} {s : Shared}
theorem NkA.is (I : L2.Inv X pins σ H s) {a : Addr} {k : NestedKey} (h : NkA X.K H a k) : (nestedKind X.prog X.w).is s.heap k a := ⟨Nk.is I k _ h.1 _ rfl, h.2⟩
theorem DN.h (I : L2.Inv X pins σ H s) {d : Addr} {o : Obj} {xs : List NE} (D : DN X.prog X.w X.K H d o xs) : ∃ ys, NRel xs ys ∧ Heap.DictOfH (nestedKind X.prog X.w) s.heap d ys := by
  obtain ⟨ys, es, ep, r, x, dd, e, nd⟩ := D.ok.ex
  refine ⟨ys, r, o, es, ep, exO_get I.hok D.at_, x, dd, e, fun y m => ?_, nd⟩
  obtain ⟨v, mv⟩ := r.mem m
  exact (D.ks _ mv).is I
theorem nroom {X : Cx} (hu : X.A.units + 64 < cLine) : (nestedKind X.prog X.w).room X.A.in1 := by
  show X.A.units + 1 + 8 < cLine
  omega
end
/-! k in d, k not in d, d[k], d.get(k) -/
def rInN (P : Program) (w : World) (K : PySem.W.Frag) (b : Bool) : R2 := fun x y H Q => ∃ (a d : Addr) (k : NestedKey) (o : Obj) (xs : List NE), x = .ref a ∧ y = .ref d ∧ NkA K H a k ∧ DN P w K H d o xs ∧ Q (.bl (xor b (atN xs k).isSome)) H
theorem op_inN {X : Cx} (hu : X.A.units + 64 < cLine) : OpR X (compareOp .In) (rInN X.prog X.w X.K false) := by
  intro pins s σ H x y v u Q I rx ry h
  obtain ⟨a, d, k, o, xs, rfl, rfl, hk, D, q⟩ := h
  obtain rfl : v = Value.ref a := rx
  obtain rfl : u = Value.ref d := ry
  obtain ⟨ys, r, hd⟩ := D.h I
  refine wpAny_in_heap (nroom hu) (hk.is I) D.ok.sys hd ⟨.bl (atKey ys k).isSome, H, I.tok _, rfl, ?_⟩
  rw [r.some_ k]
  simpa using q
theorem op_notInN {X : Cx} (hu : X.A.units + 64 < cLine) : OpR X (compareOp .NotIn) (rInN X.prog X.w X.K true) := by
  intro pins s σ H x y v u Q I rx ry h
  obtain ⟨a, d, k, o, xs, rfl, rfl, hk, D, q⟩ := h
  obtain rfl : v = Value.ref a := rx
  obtain rfl : u = Value.ref d := ry
  obtain ⟨ys, r, hd⟩ := D.h I
  refine wpAny_notIn_heap (nroom hu) (hk.is I) D.ok.sys hd ⟨.bl (!(atKey ys k).isSome), H, I.tok _, rfl, ?_⟩
  rw [r.some_ k]
  simpa using q
def tNGet (P : Program) (w : World) (K : PySem.W.Frag) (td ty : TE) : TE := fun σ H Q => td σ H fun x H1 => ty σ H1 fun y H2 => ∃ (d a : Addr) (k : NestedKey) (o : Obj) (xs : List NE) (v : V), x = .ref d ∧ y = .ref a ∧ NkA K H2 a k ∧ DN P w K H2 d o xs ∧ atN xs k = some v ∧ Q v H2
theorem pe_nget {X : Cx} {o i : Expr} {pos : Pos} {td ty : TE} (hu : X.A.units + 64 < cLine) (ho : PE X o td) (hi : PE X i ty) (hs : NoSl i) : PE X (o.Subscript i pos) (tNGet X.prog X.w X.K td ty) := by
  refine ⟨fun pins s σ H Q I h => ?_⟩
  refine subD_of PySem.F.slot_dict_getitem.lookup hs (thn (ho.run pins s σ H _ I h) fun u s1 ⟨x, H1, I1, rx, q1⟩ => ?_)
  refine thn (hi.run pins s1 σ H1 _ I1 q1) fun iv s2 ⟨y, H2, I2, ry, d, a, k, ob, xs, v, ex, ey, hk, D, ev, q2⟩ => ?_
  subst ex ey
  obtain rfl : u = Value.ref d := rx
  obtain rfl : iv = Value.ref a := ry
  obtain ⟨ys, r, hd⟩ := D.h I2
  refine ⟨hd.typeIs, ?_⟩
  rcases r.at_ k with ⟨e1, _⟩ | ⟨v', b, u', e1, e2, rv⟩
  · rw [ev] at e1
    cases e1
  · rw [ev] at e1
    cases e1
    exact wpAny_getItem_heap (nroom hu) (hk.is I2) hd e2 ⟨v, H2, I2.tok _, rv, q2⟩
def rGetN (P : Program) (w : World) (K : PySem.W.Frag) : V → List V → Hp → VK → Prop := fun x vs H Q => ∃ (d a : Addr) (k : NestedKey) (o : Obj) (xs : List NE), x = .ref d ∧ vs = [.ref a] ∧ NkA K H a k ∧ DN P w K H d o xs ∧ Q ((atN xs k).getD .non) H
theorem mt_getN {X : Cx} (hu : X.A.units + 64 < cLine) : MtR X "dict.get" (rGetN X.prog X.w X.K) := by
  intro pins s σ H x vs v us Q I rx rv h
  obtain ⟨d, a, k, o, xs, rfl, rfl, hk, D, q⟩ := h
  obtain rfl : v = Value.ref d := rx
  cases rv with
  | cons r0 rr =>
    cases rr
    cases r0
    obtain ⟨ys, r, hd⟩ := D.h I
    refine call_meetsIn PySem.F.slot_dict_get hd.typeIs PySem.F.entry_dict_get (PySem.F.args_dict_get_2 _ _) (meetsH_dict_get (nestedKind X.prog X.w) d a D.ok.sys) ⟨nroom hu, k, ys, hk.is I, hd, ?_⟩
    rcases r.at_ k with ⟨e1, e2⟩ | ⟨v', b, u', e1, e2, rv'⟩
    · rw [e1] at q
      rw [e2]
      exact ⟨.non, H, I.tok _, rfl, q⟩
    · rw [e1] at q
      rw [e2]
      exact ⟨v', H, I.tok _, rv', q⟩
end Ow
/-! a walk of such a dict's keys; {k: v for ..} with such keys -/
namespace Ow
open PySem PySem.Spec PyProof.Rows L2
/-- the keys in their order -/
def Itn (d : Addr) (o : Obj) (xs : List NE) : L2.It where
  go i H := H d = some (exO d o) ∧ i < xs.length
  yld i H x H' := H' = H ∧ ∃ e, xs[i]? = some e ∧ x = .ref e.2.1
  stop i H := H d = some (exO d o) ∧ xs.length ≤ i
theorem walk_keysN {d : Addr} {o : Obj} {xs : List NE} : Walk (Itn d o xs) xs.length (fun H => H d = some (exO d o)) (fun i H x H' => H' = H ∧ ∃ e, xs[i]? = some e ∧ x = .ref e.2.1) := by
  constructor
  · exact fun i H hi g => ⟨g, hi⟩
  · exact fun H g => ⟨g, Nat.le_refl _⟩
  · exact fun i H x H' hi g y => y
theorem NOk.ents {P : Program} {w : World} {d : Addr} {o : Obj} {xs : List NE} (h : NOk P w d o xs) {es : Array DictEntry} {ep : Nat} (e : o.data = .dict es ep) : es.size = xs.length ∧ ∀ (i : Nat) (x : NE), xs[i]? = some x → ∃ en : DictEntry, es[i]? = some en ∧ en.key = Value.ref x.2.1 := by
  obtain ⟨ys, es', ep', r, _, e', el, _⟩ := h.ex
  obtain ⟨rfl, rfl⟩ := dict_ep e' e
  have sz : es.size = ys.length := by rw [← Array.length_toList, el, List.length_map]
  refine ⟨by rw [sz, r.len], fun i x ex => ?_⟩
  obtain ⟨u, eu, _⟩ := r.get ex
  refine ⟨entryOfKey (nestedKind P w) (x.1, x.2.1, u), ?_, rfl⟩
  rw [← Array.getElem?_toList, el, List.getElem?_map, eu]
  rfl
theorem turn_keysN {P : Program} {w : World} {K : PySem.W.Frag} {tg : Expr} {d : Addr} {o : Obj} {es : Array DictEntry} {ep : Nat} {xs : List NE} (ok : NOk P w d o xs) (it : Addr) (hod : o.data = .dict es ep) : Turn P w K tg (Itn d o xs) [it] it fun i h => h.IsKeyIter it d i xs.length ep := by
  obtain ⟨hsz, ent⟩ := ok.ents hod
  refine ⟨List.mem_singleton.mpr rfl, fun i h st b hb => ?_, fun i h h' st k => Heap.IsKeyIter.at st fun oi e => k it (List.mem_singleton.mpr rfl) oi e, ?_, ?_, fun A i s Q E st h => ?_⟩
  · obtain rfl := List.mem_singleton.mp hb
    obtain ⟨oi, e, c, dd⟩ := st
    exact ⟨oi, e, fun v z => by rw [dd] at z; cases z⟩
  · rintro X rfl rfl hK hc i pins s σ H E I hf st ⟨hd, hi⟩
    obtain ⟨f0, f1, f2, f3, f4, f5⟩ := hf it (List.mem_singleton.mpr rfl)
    obtain ⟨en, hen, hkey⟩ := ent i xs[i] (List.getElem?_eq_getElem hi)
    refine next_key_item st (exO_get I.hok hd) hod hsz hen fun h' st' sb => ?_
    have I1 := Inv.turned (t' := s.toks) I (fun b ob hb e => (sb.right b hb).trans e) f0 f1 f3 f4 f5
    obtain ⟨oi, e, c, dd⟩ := id st'
    refine ⟨en.key, rfl, go_of e c dd (by decide) ⟨.ref xs[i].2.1, H, I1, hkey, ⟨rfl, xs[i], List.getElem?_eq_getElem hi, rfl⟩, st', fun b hb => ?_⟩⟩
    exact (hf b hb).1
  · rintro X rfl rfl hK hc i pins s σ H E I hf st ⟨hd, hi⟩
    obtain ⟨f0, f1, f2, f3, f4, f5⟩ := hf it (List.mem_singleton.mpr rfl)
    refine next_key_end (I.ok.hd hc) st (exO_get I.hok hd) hod hsz hi fun h' eb => ?_
    exact ⟨rfl, Inv.turned (t' := s.toks) I (fun b ob hb e => eb b ob hb e) f0 f1 f3 f4 f5⟩
  · refine wpAny_pyIter_slot (Heap.IsKeyIter.typeIs st) PySem.F.slot_dict_keyiterator_iter (wpAny_call_entry PySem.F.slot_dict_keyiterator_iter (Heap.IsKeyIter.typeIs st) PySem.F.entry_dict_keyiterator_iter ?_ (PySem.F.args_dict_keyiterator_iter_1 (Value.ref it)))
    exact wpAny_pure ⟨Value.ref it, rfl, "dict_keyiterator", .builtin "dict_keyiterator.__next__", Heap.IsKeyIter.typeIs st, PySem.F.slot_dict_keyiterator_next.lookup, h⟩
def iKeysN (P : Program) (w : World) (td : TE) : TI := fun σ H R => td σ H fun x H1 => ∃ (d : Addr) (o : Obj) (xs : List NE), x = .ref d ∧ H1 d = some (exO d o) ∧ NOk P w d o xs ∧ R (Itn d o xs) H1
theorem pi_keysN {X : Cx} {tg e : Expr} {td : TE} (he : PE X e td) : PI X tg e (iKeysN X.prog X.w td) := by
  refine ⟨fun pins s σ H R I h => ?_⟩
  refine thn (he.run pins s σ H _ I h) fun u s1 ⟨x, H1, I1, rx, d, o, xs, ex, hd, ok, q⟩ => ?_
  subst ex
  obtain rfl : u = Value.ref d := rx
  obtain ⟨ys, es, ep, r, xd, hod, el, nd⟩ := id ok.ex
  obtain ⟨hsz, _⟩ := ok.ents hod
  refine iter_keys ok.sys (exO_get I1.hok hd) xd hod (pi_one I1 _ (turn_keysN ok s1.heap.objs.size hod) ⟨_, Heap.get?_push_size s1.heap rfl, rfl, ?_⟩ q)
  rw [hsz]
  rfl
/-! the comprehension -/
def tDcN (P : Program) (w : World) (K : PySem.W.Frag) (wi : TI) (g : TG) (tt : TT) (tk tv : TE) (vs : List Nat) : TE := fun σ H Q => wi σ H fun J H1 => ∀ (D : Addr) (o0 : Obj), H1 D = none → NOk P w D o0 [] → ∃ W : Nat → Nat → Hp → Prop, (∃ m, W 0 m (upd H1 D (exO D o0))) ∧ ∀ i m H, W i m H →
  (J.stop i H ∧ Q (.ref D) H) ∨ (J.go i H ∧ ∃ Nx : Hp → Prop, (∀ H', Nx H' → ∃ m', m' < m ∧ W (i + 1) m' H') ∧ ∀ x H', J.yld i H x H' → g x (wipe σ vs) H' fun σ2 H2 => wipe σ2 vs = wipe σ vs ∧ tt σ2 H2 fun b H3 =>
    if b = true then tk σ2 H3 fun y H4 => tv σ2 H4 fun z H5 => ∃ (a : Addr) (k : NestedKey) (o : Obj) (xs : List NE), y = .ref a ∧ NkA K H5 a k ∧ DN P w K H5 D o xs ∧ xs.length < sizeLine ∧ ∀ o', NOk P w D o' (putN xs k a z) → Nx (upd H5 D (exO D o')) else Nx H3)
theorem n_empty {P : Program} {w : World} (h : Heap) (hb : sysModules < h.objs.size) : NOk P w h.objs.size { cls := .type "dict", data := .dict #[] } [] := by
  refine ⟨Nat.zero_le _, ?_, [], #[], 0, .nil, ⟨rfl, rfl, rfl⟩, rfl, rfl, .nil⟩
  exact beq_eq_false_iff_ne.mpr (Nat.ne_of_gt hb)
theorem n_dictSet {X : Cx} {pins : List (Addr × Obj)} {σ : L2.St} {H : Hp} {s : Shared} {E : Value → Shared → Prop} {D a : Addr} {k : NestedKey} {o : Obj} {xs : List NE} {v : V} {r : Value} {Q : Unit → Shared → Prop} (hu : X.A.units + 64 < cLine) (I : L2.Inv X pins σ H s) (hk : NkA X.K H a k) (hD : DN X.prog X.w X.K H D o xs) (hz : xs.length < sizeLine) (rv : RelV v r)
    (h : ∀ s' o', NOk X.prog X.w D o' (putN xs k a v) → L2.Inv X pins σ (upd H D (exO D o')) s' → Q () s') : wpAny (model X.prog X.w) X.A (dictSet D (Value.ref a) r) Q E s := by
  obtain ⟨ys, rl, hd⟩ := hD.h I
  refine wpAny_dictSet_heap (by show X.A.units + 8 < cLine; omega) (hk.is I) hd (fun h' dd' hs => ?_) (by have := rl.len; omega)
  obtain ⟨o', es', ep', e', x', da', el', ks', nd'⟩ := dd'
  refine h _ o' ⟨Nat.le_trans (putN_len _ _ _ _) hz, hD.ok.sys, _, es', ep', rl.put k a rv, x', da', el', nd'⟩ ?_
  exact d_write I (by rw [hD.at_]; exact True.intro) hs ⟨o', e'⟩ (exO_ok e')
end Ow
/-! {k: v for ..}, the keys tuples -/
namespace Ow
open PySem PySem.Spec PyProof.Rows L2
theorem pe_dcN {X : Cx} {kx vx tg iter : Expr} {ifs : List Expr} {scope : Scope} {own : List (Str × Nat)} {pos : Pos} {wi : TI} {g : TG} {tt : TT} {tk tv : TE} (hc : X.calm = true) (hu : X.A.units + 64 < cLine) (hN : X.N.Nodup) (hi : PI X tg iter wi) (ok : BlkOk X.N X.env.scope scope own)
    (hg : ∀ (s : Shared) (H : Hp) (C : Addr) (cl : List (Str × Addr)) (fp : List Addr), PG (X.blk s H scope (compEnvC scope cl C X.env) fp) tg g)
    (ht : ∀ (s : Shared) (H : Hp) (C : Addr) (cl : List (Str × Addr)) (fp : List Addr), PTs (X.blk s H scope (compEnvC scope cl C X.env) fp) ifs tt)
    (hk : ∀ (s : Shared) (H : Hp) (C : Addr) (cl : List (Str × Addr)) (fp : List Addr), PE (X.blk s H scope (compEnvC scope cl C X.env) fp) kx tk)
    (he : ∀ (s : Shared) (H : Hp) (C : Addr) (cl : List (Str × Addr)) (fp : List Addr), PE (X.blk s H scope (compEnvC scope cl C X.env) fp) vx tv)
    (hs : ∀ x : Value, foldedSetIterable iter X.env x = pure x := by intro x; rfl) :
    PE X (.DictComp kx vx [⟨tg, iter, ifs, 0⟩] scope pos) (tDcN X.prog X.w X.K wi g tt tk tv (own.map (·.2))) := by
  refine ⟨fun pins s σ H Q I h => ?_⟩
  rw [arm_eval_DictComp]
  refine wpAny_comprehension_free rfl hs (closure_ok fun y hy e => (ok.free y hy e).elim (fun k => I.ok.has y.1 (.inl k)) fun k => I.ok.has y.1 (.inr k)) ok.kind (fun y hy e => by rw [ok.uniq y hy, e]) ?_
  refine thn (hi.run pins s σ H _ I h) fun xv s1 hx => thn hx fun itv s2 ⟨it, fp, tn, J, H2, e, I2, T, st2, f2, q⟩ => ?_
  subst e
  refine wpAny_newObj_type (newEnv_comp ?_) (by show _ ≤ _; decide)
  have hDn := HOk.fresh I2.hok (Nat.le_refl s2.heap.objs.size)
  obtain ⟨W, ⟨m0, w0⟩, turn⟩ := q s2.heap.objs.size _ hDn (n_empty s2.heap (Inv.big I2))
  have I3 := Inv.laid (t' := s2.toks) (h' := s2.heap.push { cls := .type "dict", data := .dict #[] }) (o := exO s2.heap.objs.size { cls := .type "dict", data := .dict #[] }) I2 (fun b o e => Heap.get?_push_of_some _ e) (Nat.le_refl _) (exO_ok (Heap.get?_push_size s2.heap rfl))
  have sz : ∀ b ∈ fp, b < s2.heap.objs.size := fun b hb => by
    obtain ⟨o, e, _⟩ := T.obj 0 s2.heap st2 b hb
    exact Heap.lt_size e
  have f3 : ∀ b ∈ fp, FpOk X pins (upd H2 s2.heap.objs.size (exO s2.heap.objs.size { cls := .type "dict", data := .dict #[] })) b ∧ b < (s2.heap.push { cls := .type "dict", data := .dict #[] }).objs.size := fun b hb => by
    have hlt := sz b hb
    refine ⟨⟨by rw [upd_ne (Nat.ne_of_lt hlt)]; exact (f2 b hb).1, (f2 b hb).2⟩, ?_⟩
    rw [Heap.size_push]
    exact Nat.lt_succ_of_lt hlt
  have st3 := T.keep 0 s2.heap (s2.heap.push { cls := .type "dict", data := .dict #[] }) st2 fun b x o e => Heap.get?_push_of_some _ e
  have I4 := block_start I3 ok hN f3
  have pg := hg { heap := s2.heap.push { cls := .type "dict", data := .dict #[] }, gens := s2.gens, drawn := s2.drawn, toks := s2.toks, os := s2.os } (upd H2 s2.heap.objs.size (exO s2.heap.objs.size { cls := .type "dict", data := .dict #[] })) (s2.heap.push { cls := .type "dict", data := .dict #[] }).objs.size (cellsFrom ((s2.heap.push { cls := .type "dict", data := .dict #[] }).objs.size + 1) scope.names (cloFrom X.env.cells scope.names [])) fp
  have pt := ht { heap := s2.heap.push { cls := .type "dict", data := .dict #[] }, gens := s2.gens, drawn := s2.drawn, toks := s2.toks, os := s2.os } (upd H2 s2.heap.objs.size (exO s2.heap.objs.size { cls := .type "dict", data := .dict #[] })) (s2.heap.push { cls := .type "dict", data := .dict #[] }).objs.size (cellsFrom ((s2.heap.push { cls := .type "dict", data := .dict #[] }).objs.size + 1) scope.names (cloFrom X.env.cells scope.names [])) fp
  have pk := hk { heap := s2.heap.push { cls := .type "dict", data := .dict #[] }, gens := s2.gens, drawn := s2.drawn, toks := s2.toks, os := s2.os } (upd H2 s2.heap.objs.size (exO s2.heap.objs.size { cls := .type "dict", data := .dict #[] })) (s2.heap.push { cls := .type "dict", data := .dict #[] }).objs.size (cellsFrom ((s2.heap.push { cls := .type "dict", data := .dict #[] }).objs.size + 1) scope.names (cloFrom X.env.cells scope.names [])) fp
  have pe := he { heap := s2.heap.push { cls := .type "dict", data := .dict #[] }, gens := s2.gens, drawn := s2.drawn, toks := s2.toks, os := s2.os } (upd H2 s2.heap.objs.size (exO s2.heap.objs.size { cls := .type "dict", data := .dict #[] })) (s2.heap.push { cls := .type "dict", data := .dict #[] }).objs.size (cellsFrom ((s2.heap.push { cls := .type "dict", data := .dict #[] }).objs.size + 1) scope.names (cloFrom X.env.cells scope.names [])) fp
  have nfp : ∀ b ∈ fp, (upd H2 s2.heap.objs.size (exO s2.heap.objs.size { cls := .type "dict", data := .dict #[] })) b = none := fun b hb => (f3 b hb).1.1
  have st4 := T.keep 0 _ (pushCells ((s2.heap.push { cls := .type "dict", data := .dict #[] }).push { cls := .type "dict", data := .dict #[] }) scope.names) st3 fun b x o e => pushCells_keeps scope.names _ b o (Heap.get?_push_of_some _ e)
  generalize hXB : (X.blk { heap := s2.heap.push { cls := .type "dict", data := .dict #[] }, gens := s2.gens, drawn := s2.drawn, toks := s2.toks, os := s2.os } (upd H2 s2.heap.objs.size (exO s2.heap.objs.size { cls := .type "dict", data := .dict #[] })) scope (compEnvC scope (cellsFrom ((s2.heap.push { cls := .type "dict", data := .dict #[] }).objs.size + 1) scope.names (cloFrom X.env.cells scope.names [])) (s2.heap.push { cls := .type "dict", data := .dict #[] }).objs.size X.env) fp) = XB at I4 pg pt pk pe
  have stat : ∀ {σ' : L2.St} {H' : Hp} {s' : Shared}, L2.Inv XB [] σ' H' s' → (∀ b ∈ fp, H' b = none) → ∀ b ∈ fp, FpOk XB [] H' b := fun {σ' H' s'} I' hn b hb => by
    subst hXB
    exact ⟨hn b hb, (I'.ok.exf b hb).1, I'.ok.exfs b hb, .inl hb, fun x c e => (I'.ok.exf b hb).2 x c e, fun p hp => by
      have z : p ∈ ([] : List (Addr × Obj)) ++ [] := hp
      simp at z⟩
  have loop := compLoop_anyD (prog := X.prog) (w := X.w) (A := X.A) (R := compPost (model X.prog X.w) X.A X.xe none (EP X pins σ Q) (Value.ref s2.heap.objs.size) (s2.heap.push { cls := .type "dict", data := .dict #[] }).objs.size) (kx := kx) (vx := vx) (target := tg) (iter := iter) (ifs := ifs) (scope := scope) (pos := pos) (it := Value.ref it) (D := s2.heap.objs.size) (env := XB.env)
    (fun n s' => ∃ i H', L2.Inv XB [] (wipe σ (own.map (·.2))) H' s' ∧ tn i s'.heap ∧ (∀ b ∈ fp, H' b = none) ∧ W i n H') (fun n s5 ⟨i, H5, I5, st5, n5, w5⟩ => ?step) m0 ⟨0, _, I4, st4, nfp, w0⟩
  case step =>
    rcases turn i n H5 w5 with ⟨stop, qq⟩ | ⟨go, Nx, hNx, step⟩
    · have td := T.done XB (by rw [← hXB]) (by rw [← hXB]) (by rw [← hXB]) (by rw [← hXB]; exact hc) i [] s5 (wipe σ (own.map (·.2))) H5 (fun _ _ => False) I5 (stat I5 n5) st5 stop
      have eA : XB.A = X.A := by rw [← hXB]
      rw [eA] at td
      refine thnF td fun r s6 ⟨hr, I6⟩ => ?_
      subst hr
      subst hXB
      have I7 := Inv.call' I3 I6.os I6.base I6.hok I6.bare fun b hb => ⟨(f3 b hb).1.2.2.2.1, (f3 b hb).1.2.1, (f3 b hb).1.2.2.2.2.1, (f3 b hb).1.2.2.2.2.2⟩
      have nC : H5 (s2.heap.push { cls := .type "dict", data := .dict #[] }).objs.size = none := I6.free
      obtain ⟨m, hn, _⟩ := I6.loc
      obtain ⟨f0, f1, _, f3', f4, f5⟩ := Inv.fpOk I3 (Nat.le_refl _) nC
      exact ⟨m, hn, fun h'' sb => ⟨.ref s2.heap.objs.size, H5, Inv.turned I7 (fun b o hb e => (sb.2 b hb).trans e) f0 f1 f3' f4 f5, rfl, qq⟩⟩
    · have ti := T.item XB (by rw [← hXB]) (by rw [← hXB]) (by rw [← hXB]) (by rw [← hXB]; exact hc) i [] s5 (wipe σ (own.map (·.2))) H5 (fun _ _ => False) I5 (stat I5 n5) st5 go
      have eA : XB.A = X.A := by rw [← hXB]
      rw [eA] at ti
      refine thnF ti fun r s6 ⟨u, hr, h6⟩ => ?_
      subst hr
      refine thnF h6 fun _ s7 ⟨x, H7, I7, r7, y7, st7, n7⟩ => ?_
      have I7' := Inv.pinned I7 (stat I7 n7) (T.obj (i + 1) s7.heap st7)
      have fin : ∀ {s' : Shared} {H' : Hp} {σ8 : L2.St}, wipe σ8 (own.map (·.2)) = wipe σ (own.map (·.2)) → L2.Inv XB ([] ++ pinsAt fp s7.heap) σ8 H' s' → Nx H' → ∃ m, m < n ∧ ∃ i H', L2.Inv XB [] (wipe σ (own.map (·.2))) H' s' ∧ tn i s'.heap ∧ (∀ b ∈ fp, H' b = none) ∧ W i m H' := fun {s' H' σ8} hw8 I' nx => by
        obtain ⟨m', hm, w'⟩ := hNx _ nx
        have pin' : ∀ b ∈ fp, ∀ o, s7.heap.get? b = some o → s'.heap.get? b = some o ∧ H' b = none := fun b hb o e => by
          have z := I'.pin (b, o) (List.mem_append_right _ (List.mem_append_right [] (mem_pinsAt hb e)))
          exact ⟨z.1, z.2.1⟩
        have hl : (wipe σ (own.map (·.2))).length = σ8.length := by rw [← hw8, wipe_length]
        refine ⟨m', hm, i + 1, H', Inv.weak (Inv.unpinned I') hl fun j v e => (wipe_some (by rw [hw8]; exact e)).1, T.keep (i + 1) s7.heap s'.heap st7 fun b hb o e => (pin' b hb o e).1, fun b hb => ?_, w'⟩
        obtain ⟨o, e, _⟩ := T.obj (i + 1) s7.heap st7 b hb
        exact (pin' b hb o e).2
      have hX : X.prog = XB.prog ∧ X.w = XB.w ∧ X.K = XB.K := by rw [← hXB]; exact ⟨rfl, rfl, rfl⟩
      subst hXB
      have hpg := pg.run ([] ++ pinsAt fp s7.heap) s7 (wipe σ (own.map (·.2))) H7 x u _ I7' r7 (step x H7 y7)
      refine thnF hpg fun _ s8 ⟨σ8, H8, I8, hw8, q8⟩ => ?_
      have hpt := pt.run ([] ++ pinsAt fp s7.heap) s8 σ8 H8 _ I8 q8
      refine thnF hpt fun b s9 ⟨H9, I9, q9⟩ => ?_
      cases b with
      | false => exact fin hw8 I9 q9
      | true =>
        have hpk := pk.run ([] ++ pinsAt fp s7.heap) s9 σ8 H9 _ I9 q9
        refine thnF hpk fun z s10 ⟨yk, H10, I10, r10, q10⟩ => ?_
        have hpe := pe.run ([] ++ pinsAt fp s7.heap) s10 σ8 H10 _ I10 q10
        refine thnF hpe fun z2 s11 ⟨yv, H11, I11, r11, a, k, o, xs, ek, ka, dn, hz11, nx⟩ => ?_
        subst ek
        obtain rfl : z = Value.ref a := r10
        exact n_dictSet (X := X.blk _ _ scope _ fp) hu I11 ka dn hz11 r11 fun s12 o' no I12 => fin hw8 I12 (nx o' no)
  subst hXB
  exact codeAny_compStart_dict loop (T.self X.A 0 _ _ _ st4 loop)
end Ow
/-! d.get(k) as it is written -/
namespace Ow
open PySem PySem.Spec PyProof.Rows L2
def tNGet1 (P : Program) (w : World) (K : PySem.W.Frag) (td ty : TE) : TE := fun σ H Q => td σ H fun x H1 => ∃ (d : Addr), x = .ref d ∧ (∃ o xs, H1 d = some (exO d o) ∧ NOk P w d o xs) ∧ ty σ H1 fun y H2 => ∃ (a : Addr) (k : NestedKey) (o : Obj) (xs : List NE), y = .ref a ∧ NkA K H2 a k ∧ DN P w K H2 d o xs ∧ Q ((atN xs k).getD .non) H2
theorem pe_nget1 {X : Cx} {o e : Expr} {apos cpos : Pos} {td ty : TE} (hu : X.A.units + 64 < cLine) (ho : PE X o td) (he : PE X e ty) (m : M1 X o "get" apos e cpos) : PE X (.Call (.Attribute o "get" apos) [e] [] cpos) (tNGet1 X.prog X.w X.K td ty) := by
  refine ⟨fun pins s σ H Q I h => ?_⟩
  refine wpAny_Call_method m.base m.few m.line PySem.F.plainAttrs_dict PySem.F.slot_dict_get PySem.F.type_dict_get (thn (ho.run pins s σ H _ I h) fun u s1 ⟨x, H1, I1, rx, d, ex, ⟨ob, xs, ed, ok⟩, q1⟩ => ?_)
  subst ex
  obtain rfl : u = Value.ref d := rx
  obtain ⟨ys, es, ep, r, xd, _⟩ := ok.ex
  have eg := exO_get I1.hok ed
  refine ⟨?_, fun a e => ?_, ?_⟩
  · exact ⟨ob, eg, xd.1⟩
  · cases e
    exact ⟨ob, eg, xd.2.1⟩
  · rw [m.trees]
    refine Calls.callWith_builtin rfl (Calls.evalArgs_plain (Calls.spliced_cons (thn (he.run pins s1 σ H1 _ I1 q1) fun iv s2 ⟨y, H2, I2, ry, a, k, o', xs', ey, hk, D, q2⟩ => ?_)))
    subst ey
    exact Calls.spliced_nil (mt_getN hu pins s2 σ H2 (.ref d) [.ref a] (Value.ref d) [iv] Q I2 rfl (.cons ry .nil) ⟨d, a, k, o', xs', rfl, rfl, hk, D, q2⟩)
end Ow
/-! the same within a comprehension's block -/
namespace Ow
open PySem PySem.Spec PyProof.Rows L2
theorem op_notInN_K {X : Cx} {P : Program} {w : World} {K : PySem.W.Frag} (e1 : X.prog = P) (e2 : X.w = w) (e3 : X.K = K) (hu : X.A.units + 64 < cLine) : OpR X (compareOp .NotIn) (rInN P w K true) := by
  subst e1 e2 e3
  exact op_notInN hu
theorem pe_nget_K {X : Cx} {P : Program} {w : World} {K : PySem.W.Frag} (e1 : X.prog = P) (e2 : X.w = w) (e3 : X.K = K) {o i : Expr} {pos : Pos} {td ty : TE} (ho : PE X o td) (hi : PE X i ty) (hu : X.A.units + 64 < cLine) (hs : NoSl i) : PE X (o.Subscript i pos) (tNGet P w K td ty) := by
  subst e1 e2 e3
  exact pe_nget hu ho hi hs
theorem pe_nget1_K {X : Cx} {P : Program} {w : World} {K : PySem.W.Frag} (e1 : X.prog = P) (e2 : X.w = w) (e3 : X.K = K) {o e : Expr} {apos cpos : Pos} {td ty : TE} (ho : PE X o td) (he : PE X e ty) (hu : X.A.units + 64 < cLine) (m : M1 X o "get" apos e cpos) : PE X (.Call (.Attribute o "get" apos) [e] [] cpos) (tNGet1 P w K td ty) := by
  subst e1 e2 e3
  exact pe_nget1 hu ho he m
theorem op_neD_K {X : Cx} {K : PySem.W.Frag} (e : X.K = K) (hu : X.A.units + 64 < cLine) : OpR X (compareOp .NotEq) (rNeD K) := by
  subst e
  exact op_neD hu
end Ow
/-! == and != of two dicts whose values are data at any depth -/
namespace Ow
open PySem PySem.Spec PyProof.Rows L2
structure DEq (K : PySem.W.Frag) (H : Hp) (ka kb : List (Key × V)) (dv du : Key → PyData) : Prop where
  l : ∀ k v, (k, v) ∈ ka → Dp K H v (dv k) ∧ (dv k).canLay0 = true ∧ (dv k).depth ≤ 40
  r : ∀ k v, valV kb k = some v → Dp K H v (du k) ∧ (du k).canLay0 = true
def eqDD (ka kb : List (Key × V)) (dv du : Key → PyData) : Bool := ka.length == kb.length && ka.all fun p => (valV kb p.1).isSome && PyData.eqv (dv p.1) (du p.1)
theorem KV.mem_ {κ : Type} {kvs : List (κ × V)} {vs : List (κ × Value)} (h : KV kvs vs) {k : κ} {u : Value} (m : (k, u) ∈ vs) : ∃ v, (k, v) ∈ kvs ∧ RelV v u := by
  unfold KV at h
  induction h with
  | nil => cases m
  | @cons p q xs ys r _ ih =>
    rcases List.mem_cons.mp m with z | m
    · refine ⟨p.2, ?_, ?_⟩
      · have e : p.1 = k := by rw [r.1, ← z]
        rw [← e]
        exact List.mem_cons_self
      · have e := r.2
        rw [← z] at e
        exact e
    · obtain ⟨v, a, b⟩ := ih m
      exact ⟨v, List.mem_cons_of_mem _ a, b⟩
theorem KV.all_ {κ : Type} {kvs : List (κ × V)} {vs : List (κ × Value)} (h : KV kvs vs) (f : κ → Bool) : (kvs.all fun p => f p.1) = vs.all fun p => f p.1 := by
  unfold KV at h
  induction h with
  | nil => rfl
  | @cons p q xs ys r _ ih => rw [List.all_cons, List.all_cons, ih, r.1]
theorem hits_ {κ : Type} [DecidableEq κ] {A : Around} {s : Shared} {kb : List (κ × Value)} {e : κ → Bool} : ∀ va : List (κ × Value), (∀ k w y, (k, w) ∈ va → valueAt kb k = some y → SeqAt.EqAt A s w y (e k)) → PySem.W.KeqHits A s kb va (va.all fun p => (valueAt kb p.1).isSome && e p.1)
  | [], _ => .nil
  | (k, w) :: r, h => by
    have ih := hits_ r fun k' w' y' m => h k' w' y' (List.mem_cons_of_mem _ m)
    cases z : valueAt kb k with
    | none =>
      rw [show (((k, w) :: r).all fun p => (valueAt kb p.1).isSome && e p.1) = false by rw [List.all_cons]; simp [z]]
      exact .miss z
    | some y =>
      rw [show (((k, w) :: r).all fun p => (valueAt kb p.1).isSome && e p.1) = (e k && r.all fun p => (valueAt kb p.1).isSome && e p.1) by rw [List.all_cons]; simp [z]]
      exact .hit z (h k w y List.mem_cons_self z) ih
def rEqDD (K : PySem.W.Frag) (n : Bool) : R2 := fun x y H Q => ∃ (a b : Addr) (ka kb : List (Key × V)) (dv du : Key → PyData), x = .ref a ∧ y = .ref b ∧ H a = some (.dK ka) ∧ H b = some (.dK kb) ∧ DEq K H ka kb dv du ∧ Q (.bl (xor n (eqDD ka kb dv du))) H
theorem eqDD_val {ka kb : List (Key × V)} {va vb : List (Key × Value)} (ra : KV ka va) (rb : KV kb vb) (dv du : Key → PyData) : (va.length == vb.length && va.all fun p => (valueAt vb p.1).isSome && PyData.eqv (dv p.1) (du p.1)) = eqDD ka kb dv du := by
  have e : ∀ k, (valueAt vb k).isSome = (valV kb k).isSome := fun k => by
    have ro := rb.val k
    cases e1 : valV kb k <;> cases e2 : valueAt vb k <;> rw [e1, e2] at ro <;> first | rfl | exact absurd ro (by simp [RelO])
  have e2 : (fun p : Key × Value => (valueAt vb p.1).isSome && PyData.eqv (dv p.1) (du p.1)) = fun p => (fun k => (valV kb k).isSome && PyData.eqv (dv k) (du k)) p.1 := by
    funext p
    rw [e]
  unfold eqDD
  rw [e2, ← KV.all_ ra (fun k => (valV kb k).isSome && PyData.eqv (dv k) (du k)), ra.length, rb.length]
section
variable {X : Cx} {pins : List (Addr × Obj)} {σ : L2.St} {H : Hp} {s : Shared}
theorem DEq.at_ (I : L2.Inv X pins σ H s) {ka kb : List (Key × V)} {va vb : List (Key × Value)} {dv du : Key → PyData} (ra : KV ka va) (rb : KV kb vb) (D : DEq X.K H ka kb dv du) {A : Around} (hA : A.units + 40 < cLine) : ∀ k w y, (k, w) ∈ va → valueAt vb k = some y → SeqAt.EqAt A s w y (PyData.eqv (dv k) (du k)) := fun k w y m e => by
  obtain ⟨v', m', r'⟩ := KV.mem_ ra m
  obtain ⟨d1, c1, l1⟩ := D.l k v' m'
  have ro := rb.val k
  rw [e] at ro
  cases e2 : valV kb k with
  | none => rw [e2] at ro; exact absurd ro (by simp [RelO])
  | some v2 =>
    rw [e2] at ro
    obtain ⟨d2, c2⟩ := D.r k v2 e2
    obtain ⟨as, r1⟩ := Dp.reads I _ _ _ d1 r'
    obtain ⟨bs, r2⟩ := Dp.reads I _ _ _ d2 ro
    exact SeqAt.eqAt_reads _ _ A s _ _ _ _ r1 r2 c1 c2 (by omega)
end
theorem op_eqDD {X : Cx} (hu : X.A.units + 64 < cLine) : OpR X (compareOp .Eq) (rEqDD X.K false) := by
  intro pins s σ H x y v u Q I rx ry h
  obtain ⟨a, b, ka, kb, dv, du, rfl, rfl, ea, eb, D, q⟩ := h
  obtain rfl : v = Value.ref a := rx
  obtain rfl : u = Value.ref b := ry
  obtain ⟨_, ya, va, ra, da⟩ := dk_of I.hok ea
  obtain ⟨_, yb, vb, rb, db⟩ := dk_of I.hok eb
  refine PySem.W.keq_eq ya yb da db (by omega) (fun _ => hits_ va (D.at_ I ra rb (by show X.A.units + 1 + 40 < cLine; omega))) ⟨.bl (eqDD ka kb dv du), H, I, ?_, by simpa using q⟩
  rw [eqDD_val ra rb]
  rfl
theorem op_neDD {X : Cx} (hu : X.A.units + 64 < cLine) : OpR X (compareOp .NotEq) (rEqDD X.K true) := by
  intro pins s σ H x y v u Q I rx ry h
  obtain ⟨a, b, ka, kb, dv, du, rfl, rfl, ea, eb, D, q⟩ := h
  obtain rfl : v = Value.ref a := rx
  obtain rfl : u = Value.ref b := ry
  obtain ⟨_, ya, va, ra, da⟩ := dk_of I.hok ea
  obtain ⟨_, yb, vb, rb, db⟩ := dk_of I.hok eb
  refine PySem.W.keq_ne ya yb da db (by omega) (fun _ => hits_ va (D.at_ I ra rb (by show X.A.units + 1 + 40 < cLine; omega))) ⟨.bl (!eqDD ka kb dv du), H, I, ?_, by simpa using q⟩
  rw [eqDD_val ra rb]
  rfl
end Ow
/-! more of dicts with nested keys: d[k] = v, list(d), sorted(d); sorted of data -/
namespace Ow
open PySem PySem.Spec PyProof.Rows L2
/-- d[k] = v -/
def rSetN (P : Program) (w : World) (K : PySem.W.Frag) : TSet := fun x i v H Q => ∃ (d a : Addr) (k : NestedKey) (o : Obj) (xs : List NE), x = .ref d ∧ i = .ref a ∧ NkA K H a k ∧ DN P w K H d o xs ∧ xs.length < sizeLine ∧ ∀ o', NOk P w d o' (putN xs k a v) → Q (upd H d (exO d o'))
theorem set_dictN {X : Cx} (hu : X.A.units + 64 < cLine) : PSet X (rSetN X.prog X.w X.K) := by
  intro pins s σ H x i v ov iv u Q I ro ri rv h
  obtain ⟨d, a, k, o, xs, rfl, rfl, hk, D, hz, q⟩ := h
  obtain rfl : ov = Value.ref d := ro
  obtain rfl : iv = Value.ref a := ri
  obtain ⟨ys, rl, hd⟩ := D.h I
  refine wpAny_setItem_heap (hsz := by have := rl.len; omega) (nroom hu) (hk.is I) hd fun h' hm hs => ?_
  obtain ⟨o', es', ep', e', x', da', el', ks', nd'⟩ := hm
  refine ⟨_, ?_, q o' ⟨Nat.le_trans (putN_len _ _ _ _) hz, D.ok.sys, _, es', ep', rl.put k a rv, x', da', el', nd'⟩⟩
  exact d_write I (by rw [D.at_]; exact True.intro) hs ⟨o', e'⟩ (exO_ok e')
theorem refs_vals : ∀ xs : List NE, Vals (xs.map fun x => V.ref x.2.1) (xs.map fun x => Value.ref x.2.1)
  | [] => .nil
  | _ :: r => .cons rfl (refs_vals r)
/-- the keys that are collected -/
theorem keys_vals {P : Program} {w : World} {d : Addr} {o : Obj} {xs : List NE} {es : Array DictEntry} {ep : Nat} (ok : NOk P w d o xs) (e : o.data = .dict es ep) {acc : Array Value} (it : ItemsOf (fun i v => ∃ en : DictEntry, es[i]? = some en ∧ v = en.key) acc es.size) :
    Vals (xs.map fun x => V.ref x.2.1) acc.toList ∧ es.size = xs.length := by
  obtain ⟨sz, ge⟩ := ok.ents e
  have ea : acc.toList = xs.map fun x => Value.ref x.2.1 := by
    have hl : acc.toList.length = xs.length := by rw [Array.length_toList, it.1]; exact sz
    refine List.ext_getElem? fun j => ?_
    rw [List.getElem?_map]
    cases hb : xs[j]? with
    | none => rw [List.getElem?_eq_none (by rw [hl]; exact List.getElem?_eq_none_iff.mp hb)]; rfl
    | some b =>
      obtain ⟨en, e1, e2⟩ := ge j b hb
      have hj : j < acc.toList.length := by rw [hl]; exact (List.getElem?_eq_some_iff.mp hb).1
      obtain ⟨en', e3, e4⟩ := it.2 j acc.toList[j] (by rw [← Array.getElem?_toList]; exact List.getElem?_eq_getElem hj)
      rw [e1] at e3
      cases e3
      rw [List.getElem?_eq_getElem hj, e4, e2]
      rfl
  exact ⟨by rw [ea]; exact refs_vals xs, sz⟩
/-- list(d) -/
theorem call_listN {X : Cx} (hc : X.calm = true) : CallR X (.type "list") (fun vs H Q => ∃ (d : Addr) (o : Obj) (xs : List NE), vs = [V.ref d] ∧ H d = some (exO d o) ∧ NOk X.prog X.w d o xs ∧ ∀ p, H p = none → Q (.ref p) (upd H p (.lst (xs.map fun x => V.ref x.2.1)))) := by
  intro pins s σ H vs us Q I r h
  obtain ⟨d, o, xs, rfl, hd, ok, q⟩ := h
  obtain rfl := Vals.ref1 r
  obtain ⟨ys, es, ep, rl, hx, hdt, he, hn⟩ := ok.ex
  have l := ok.len
  obtain ⟨sz, _⟩ := ok.ents hdt
  refine PySem.W.kdl_call (kdl_raw ok.sys hx hdt) (I.ok.hd hc) (exO_get I.hok hd) (by omega) fun h' tk acc' c' kp e it => ?_
  obtain ⟨rv, _⟩ := keys_vals ok hdt it
  refine ⟨.ref s.heap.objs.size, _, I.laid (t' := tk) (o := .lst (xs.map fun x => V.ref x.2.1)) kp (Nat.le_refl _) ?_, rfl, q _ (I.hok.fresh (Nat.le_refl _))⟩
  exact ⟨by rw [List.length_map]; exact l, acc'.toList, c', rv, by rw [Array.toArray_toList]; exact e⟩
/-- what is sorted: data that are alike, each at its place -/
structure SrtIn {β : Type} (enc : β → PyData) (K : PySem.W.Frag) (H : Hp) (xs : List V) (bs : List β) : Prop where
  d : DpAll K H xs (bs.map enc)
  al : PySem.W.AllAlike (bs.map enc)
  so : PySem.W.Sortable (bs.map enc)
  dp : ∀ b ∈ bs, (enc b).depth ≤ 40
/-- what comes out -/
def SrtOut {β : Type} (enc : β → PyData) (xs : List V) (bs : List β) (ys : List V) : Prop := PySem.W.EachIs (fun y b => ∃ i : Nat, xs[i]? = some y ∧ bs[i]? = some b) ys (bs.mergeSort (PySem.W.dataLe false enc))
theorem each_of {β : Type} {R : V → β → Prop} : ∀ {us : List Value} {bs : List β}, PySem.W.EachIs (fun u b => ∃ y, RelV y u ∧ R y b) us bs → ∃ ys, Vals ys us ∧ PySem.W.EachIs R ys bs
  | _, _, .nil => ⟨[], .nil, .nil⟩
  | _, _, .cons ⟨y, r, a⟩ h => by
    obtain ⟨ys, v, e⟩ := each_of h
    exact ⟨y :: ys, .cons r v, .cons a e⟩
theorem each_len {α β : Type} {R : α → β → Prop} : ∀ {as : List α} {bs : List β}, PySem.W.EachIs R as bs → as.length = bs.length
  | _, _, .nil => rfl
  | _, _, .cons _ h => congrArg Nat.succ (each_len h)
theorem each_idx {α β : Type} : ∀ {as : List α} {bs : List β}, as.length = bs.length → ∀ {R : α → β → Prop}, (∀ (i : Nat) a b, as[i]? = some a → bs[i]? = some b → R a b) → PySem.W.EachIs R as bs
  | [], [], _, _, _ => .nil
  | [], _ :: _, l, _, _ => by cases l
  | _ :: _, [], l, _, _ => by cases l
  | a :: as, b :: bs, l, _, h => .cons (h 0 a b rfl rfl) (each_idx (Nat.succ.inj l) fun i x y e f => h (i + 1) x y e f)
theorem reads_each {h : Heap} {β : Type} {enc : β → PyData} : ∀ {us : List Value} {bs : List β} {as : List Addr}, ReadsAll h us (bs.map enc) as → PySem.W.EachIs (fun v b => ∃ as, Reads h v (enc b) as) us bs := fun r => PySem.W.readsAll_each _ r
mutual
theorem reads_has {h : Heap} : ∀ {v : Value} {d : PyData} {as : List Addr}, Reads h v d as → ∀ a ∈ as, ∃ o, h.get? a = some o
  | _, _, _, .none, _, m => nomatch m
  | _, _, _, .bool _, _, m => nomatch m
  | _, _, _, .int _ _, _, m => nomatch m
  | _, _, _, .str _ _, _, m => nomatch m
  | _, _, _, .list e _ _ r, a, m => by
    rcases List.mem_cons.mp m with z | m
    · rw [z]; exact ⟨_, e⟩
    · exact readsAll_has r a m
  | _, _, _, .tuple _ _ _ r, a, m => readsAll_has r a m
  | _, _, _, .dict e _ _ r1 r2, a, m => by
    rcases List.mem_append.mp m with m | m
    · rcases List.mem_cons.mp m with z | m
      · rw [z]; exact ⟨_, e⟩
      · exact readsAll_has r1 a m
    · exact readsAll_has r2 a m
theorem readsAll_has {h : Heap} : ∀ {vs : List Value} {ds : List PyData} {as : List Addr}, ReadsAll h vs ds as → ∀ a ∈ as, ∃ o, h.get? a = some o
  | _, _, _, .nil, _, m => nomatch m
  | _, _, _, .cons r1 r2, a, m => by
    rcases List.mem_append.mp m with m | m
    · exact reads_has r1 a m
    · exact readsAll_has r2 a m
end
section
variable {X : Cx} {β : Type} {enc : β → PyData}
theorem srt_in {pins : List (Addr × Obj)} {σ : L2.St} {H : Hp} {s : Shared} {xs : List V} {us : List Value} {bs : List β} (I : L2.Inv X pins σ H s) (h : SrtIn enc X.K H xs bs) (r : Vals xs us) :
    PySem.W.EachIs (fun u b => ∃ y, RelV y u ∧ ∃ i : Nat, xs[i]? = some y ∧ bs[i]? = some b) us bs ∧ (∃ as, ReadsAll s.heap us (bs.map enc) as) ∧ us.length = bs.length := by
  have lx := K1.DpAll.len h.d
  rw [List.length_map] at lx
  have lu := r.length
  refine ⟨each_idx (by omega) fun i u b eu eb => ?_, Dp.readsAll I _ _ _ h.d r, by omega⟩
  have hi := (List.getElem?_eq_some_iff.mp eb).1
  obtain ⟨u', eu', ru⟩ := r.get (List.getElem?_eq_getElem (show i < xs.length by omega))
  rw [eu] at eu'
  cases eu'
  exact ⟨_, ru, i, List.getElem?_eq_getElem _, eb⟩
/-- sorted(xs) of data -/
theorem cr_sortedDt (hu : X.A.units + 64 < cLine) : CallR X (.builtin "sorted") (fun vs H Q => ∃ (a : Addr) (xs : List V) (bs : List β), vs = [V.ref a] ∧ SqL X.K H a xs ∧ SrtIn enc X.K H xs bs ∧ ∀ ys p, SrtOut enc xs bs ys → H p = none → Q (.ref p) (upd H p (.lst ys))) := by
  intro pins s σ H vs us Q I r h
  obtain ⟨a, xs, bs, rfl, hs, si, q⟩ := h
  obtain rfl := Vals.ref1 r
  obtain ⟨its, rv, hl, hz⟩ := I.list hs
  obtain ⟨e1, ⟨as, e2⟩, l⟩ := srt_in I si rv
  have lv := rv.length
  refine PySem.W.sorted_data hl.isList e1 (reads_each e2) si.al si.so (by omega) (fun b m => by have := si.dp b m; omega) fun out ho eo => ?_
  obtain ⟨ys, vy, ey⟩ := each_of eo
  obtain ⟨ep, he'⟩ := PyProof.Rows.sortedAll_at s.heap its (List.toArray out)
  have ly := vy.length
  exact ⟨.ref _, upd H (s.heap.objs.size + 1) (.lst ys), I.laid (t' := s.toks) (fun _ _ => PyProof.Rows.sortedAll_old) (Nat.le_succ _) ⟨by omega, _, ep, vy, he'⟩, rfl, q ys _ ey (I.hok.fresh (Nat.le_succ _))⟩
/-- sorted(d) of a dict whose keys are such data -/
theorem cr_sortedDn (hc : X.calm = true) (hu : X.A.units + 64 < cLine) : CallR X (.builtin "sorted") (fun vs H Q => ∃ (d : Addr) (o : Obj) (xs : List NE) (bs : List β), vs = [V.ref d] ∧ H d = some (exO d o) ∧ NOk X.prog X.w d o xs ∧ SrtIn enc X.K H (xs.map fun x => V.ref x.2.1) bs ∧
    ∀ ys p, SrtOut enc (xs.map fun x => V.ref x.2.1) bs ys → H p = none → Q (.ref p) (upd H p (.lst ys))) := by
  intro pins s σ H vs us Q I r h
  obtain ⟨d, o, xs, bs, rfl, hd, ok, si, q⟩ := h
  obtain rfl := Vals.ref1 r
  obtain ⟨ys, es, ep, rl, hx, hdt, he, hn⟩ := ok.ex
  have l := ok.len
  obtain ⟨sz, _⟩ := ok.ents hdt
  refine Calls.call_function_entry PyProof.Rows.kind_sorted PyProof.Rows.plain_sorted PyProof.Rows.entry_sorted (PyProof.Rows.args_sorted1 _) ?_
  unfold Builtin.«sorted»
  refine wpAny_bind (m := checkCount "sorted" 1 1 _) (wpAny_pure ?_)
  refine wpAny_bind (PySem.W.kdu_collect (A := X.A.in1) (kdl_raw ok.sys hx hdt) (I.ok.hd hc) (exO_get I.hok hd) (by omega) fun h' tk acc kp it => ?_)
  obtain ⟨rv, _⟩ := keys_vals ok hdt it
  have I1 : L2.Inv X pins σ H { s with heap := h', toks := tk } := I.kept kp
  obtain ⟨e1, ⟨as, e2⟩, le⟩ := srt_in I1 si rv
  have lv := rv.length
  rw [List.length_map] at lv
  refine wpAny_bind (wpAny_newList ?_ (by omega))
  have hoL : (h'.push (seqObj "list" acc.toList.toArray 0)).get? h'.objs.size = some (seqObj "list" acc.toList.toArray 0) := Heap.get?_push_size _ rfl
  have old : ∀ b ob, h'.get? b = some ob → (h'.push (seqObj "list" acc.toList.toArray 0)).get? b = some ob := fun b ob e => Heap.get?_push_of_some _ e
  refine wpAny_bind (wpAny_holding (PySem.W.list_sort_data (A := X.A.in1) hoL e1 ((reads_each e2).mono fun v b ⟨as, q2⟩ => ⟨as, PyProof.Rows.Reads.keeps old q2, fun m => (reads_has q2 _ m).elim fun ob e => Nat.lt_irrefl _ (Heap.lt_size e)⟩) si.al si.so (by omega) (fun b m => by have := si.dp b m; show X.A.units + 1 + 1 + (enc b).depth < cLine; omega) fun out lo eo => ?_))
  obtain ⟨zs, vz, ez⟩ := each_of eo
  obtain ⟨e', he'⟩ := PyProof.Rows.sortedHeap_at (vs := acc.toList) (out := List.toArray out) hoL
  have lz := vz.length
  refine wpAny_pure ⟨_, rfl, .ref h'.objs.size, upd H h'.objs.size (.lst zs), I1.laid (t' := tk) (fun b u e => ?_) (Nat.le_refl _) (show ObjOk X.prog X.w _ _ _ (.lst zs) from ⟨by omega, _, e', vz, he'⟩), rfl, q zs _ ez (I1.hok.fresh (Nat.le_refl _))⟩
  have hb : b < h'.objs.size := Heap.lt_size e
  rw [PyProof.Rows.sortedHeap_old (Nat.ne_of_lt hb) (by rw [size_push']; exact Nat.lt_succ_of_lt hb)]
  exact old _ _ e
end
end Ow
/-! {k: v for .. in .. for .. in ..}, the keys tuples -/
namespace Ow
open PySem PySem.Spec PyProof.Rows L2
abbrev DC2 (kx vx a0 b0 a1 b1 : Expr) (sc : Scope) (ps : Pos) : Expr := .DictComp kx vx [⟨a0, b0, [], 0⟩, ⟨a1, b1, [], 0⟩] sc ps
abbrev jpos (p q : Pos) : Pos := { p with endLine := q.endLine, endCol := q.endCol }
section
variable {P : Program} {w : World} {A : Around} {R : Result → Shared → Prop} {kx vx a0 b0 a1 b1 : Expr} {sc : Scope} {ps : Pos} {it acc : Value} {ev : Env}
theorem dc2_t0 : compTurn (DC2 kx vx a0 b0 a1 b1 sc ps) 0 it acc ev = (do
    standAt b0.pos
    match ← pyNext it with
    | none => pure (.done .next)
    | some v =>
      letOwnedTupleGo a0 it v
      assign a0 ev v
      let mut ok := true
      for c in ([] : List Expr) do
        if ok then ok ← isTrue c ev (eval c ev)
      if ok then
        let x ← eval b1 ev
        standAt b1.pos
        let x ← foldedSetIterable b1 ev x
        let _ ← runOwn (.compStart (DC2 kx vx a0 b0 a1 b1 sc ps) 1 (← holding [x] (pyIter x)) acc ev) ev
      again (.compLoop (DC2 kx vx a0 b0 a1 b1 sc ps) 0 it acc ev)) := by rfl
theorem dc2_t1 {D : Addr} : compTurn (DC2 kx vx a0 b0 a1 b1 sc ps) 1 it (.ref D) ev = (do
    standAt b1.pos
    match ← pyNext it with
    | none => pure (.done .next)
    | some v =>
      letOwnedTupleGo a1 it v
      assign a1 ev v
      let mut ok := true
      for c in ([] : List Expr) do
        if ok then ok ← isTrue c ev (eval c ev)
      if ok then
        (do
          let k ← eval kx ev
          let u ← holding [k] (eval vx ev)
          standAt (jpos kx.pos vx.pos)
          holding [k, u] (dictSet D k u))
      again (.compLoop (DC2 kx vx a0 b0 a1 b1 sc ps) 1 it (.ref D) ev)) := by rfl
/-- what a turn's errors do -/
abbrev nxE (P : Program) (w : World) (A : Around) (ev : Env) (R : Result → Shared → Prop) : Value → Shared → Prop := notedBy (model P w) A ev fun e z => R (.error e) z
/-- the first clause's loop -/
theorem dc2_l0 (hs : ∀ x, foldedSetIterable b1 ev x = pure x) (J : Nat → Shared → Prop)
    (tn : ∀ n z, J n z → wpAny (model P w) A (pyNext it) (fun r z1 => match r with
      | none => R (.ok .next) z1
      | some v => wpAny (model P w) A (letOwnedTupleGo a0 it v) (fun _ z2 => wpAny (model P w) A (assign a0 ev v) (fun _ z3 => wpAny (model P w) A (eval b1 ev) (fun x z4 => wpAny (model P w) A (pyIter x) (fun jt z5 =>
          codeAny (model P w) A (.compStart (DC2 kx vx a0 b0 a1 b1 sc ps) 1 jt acc ev) (fun r z6 => match r with
            | .ok _ => ∃ m, m < n ∧ J m z6
            | .error _ => False) z5) (nxE P w A ev R) z4) (nxE P w A ev R) z3) (nxE P w A ev R) z2) (nxE P w A ev R) z1) (nxE P w A ev R) z)
    (n : Nat) {z : Shared} (h : J n z) : codeAny (model P w) A (.compLoop (DC2 kx vx a0 b0 a1 b1 sc ps) 0 it acc ev) R z := by
  refine codeAny_loop rfl J (fun n z hJ => ?_) n h
  show wpAny _ A ((compTurn (DC2 kx vx a0 b0 a1 b1 sc ps) 0 it acc ev).onRaise (fun x => do noteFrame x ev; theTreesLotGoes x)) _ _ z
  refine wpAny_noted ?_
  rw [dc2_t0]
  refine wpAny_bind (wpAny_standAt (wpAny_bind (wpAny_mono (tn n z hJ) (fun r z1 h1 => ?_) fun _ _ q => q)))
  cases r with
  | none => exact wpAny_pure h1
  | some v =>
    refine wpAny_bind (wpAny_mono h1 (fun _ z2 h2 => wpAny_bind (wpAny_mono h2 (fun _ z3 h3 => ?_) fun _ _ q => q)) fun _ _ q => q)
    refine wpAny_bind (wpAny_tests_nil ?_)
    refine wpAny_bind (wpAny_mono h3 (fun x z4 h4 => ?_) fun _ _ q => q)
    refine wpAny_bind (wpAny_standAt (wpAny_bind (wpAny_of_eq (hs x) (wpAny_bind (wpAny_holding (wpAny_mono h4 (fun jt z5 h5 => ?_) fun _ _ q => q))))))
    refine wpAny_bind (wpAny_runOwn ?_)
    rw [Around.mark_none]
    refine codeAny_mono h5 fun r z6 hr => ?_
    cases r with
    | ok f => exact wpAny_pure ⟨rfl, hr⟩
    | error e => exact hr.elim
/-- the second's -/
theorem dc2_l1 {D : Addr} (J : Nat → Shared → Prop)
    (tn : ∀ n z, J n z → wpAny (model P w) A (pyNext it) (fun r z1 => match r with
      | none => R (.ok .next) z1
      | some v => wpAny (model P w) A (letOwnedTupleGo a1 it v) (fun _ z2 => wpAny (model P w) A (assign a1 ev v) (fun _ z3 => wpAny (model P w) A (eval kx ev) (fun k z4 => wpAny (model P w) A (eval vx ev) (fun u z5 =>
          wpAny (model P w) A (dictSet D k u) (fun _ z6 => ∃ m, m < n ∧ J m z6) (nxE P w A ev R) z5) (nxE P w A ev R) z4) (nxE P w A ev R) z3) (nxE P w A ev R) z2) (nxE P w A ev R) z1) (nxE P w A ev R) z)
    (n : Nat) {z : Shared} (h : J n z) : codeAny (model P w) A (.compLoop (DC2 kx vx a0 b0 a1 b1 sc ps) 1 it (.ref D) ev) R z := by
  refine codeAny_loop rfl J (fun n z hJ => ?_) n h
  show wpAny _ A ((compTurn (DC2 kx vx a0 b0 a1 b1 sc ps) 1 it (.ref D) ev).onRaise (fun x => do noteFrame x ev; theTreesLotGoes x)) _ _ z
  refine wpAny_noted ?_
  rw [dc2_t1]
  refine wpAny_bind (wpAny_standAt (wpAny_bind (wpAny_mono (tn n z hJ) (fun r z1 h1 => ?_) fun _ _ q => q)))
  cases r with
  | none => exact wpAny_pure h1
  | some v =>
    refine wpAny_bind (wpAny_mono h1 (fun _ z2 h2 => wpAny_bind (wpAny_mono h2 (fun _ z3 h3 => ?_) fun _ _ q => q)) fun _ _ q => q)
    refine wpAny_bind (wpAny_tests_nil ?_)
    refine wpAny_bind (wpAny_bind (wpAny_mono h3 (fun k z4 h4 => wpAny_bind (wpAny_holding (wpAny_mono h4 (fun u z5 h5 => wpAny_bind (wpAny_standAt (wpAny_holding (wpAny_mono h5 (fun _ z6 h6 => wpAny_pure ⟨rfl, h6⟩) fun _ _ q => q)))) fun _ _ q => q))) fun _ _ q => q))
/-- the second clause's start -/
theorem dc2_s1 {s : Shared} (h0 : codeAny (model P w) A (.compLoop (DC2 kx vx a0 b0 a1 b1 sc ps) 1 it acc ev) R s)
    (h : wpAny (model P w) A (pyIter it) (fun jt z => codeAny (model P w) A (.compLoop (DC2 kx vx a0 b0 a1 b1 sc ps) 1 jt acc ev) R z) (nxE P w A ev R) s) :
    codeAny (model P w) A (.compStart (DC2 kx vx a0 b0 a1 b1 sc ps) 1 it acc ev) R s := by
  refine codeAny_of_tree ?_
  show wpAny _ _ ((compStart (DC2 kx vx a0 b0 a1 b1 sc ps) 1 it acc ev).onRaise (fun x => do noteFrame x ev; standAt theWindowsPlace)) _ _ s
  refine wpAny_notedAt ?_
  unfold compStart
  show wpAny _ _ (ask >>= _) _ _ s
  refine wpAny_bind (wpAny_askSetting (wpAny_ite ?_))
  split
  · first
      | exact wpAny_bind (wpAny_pure (wpAny_pure ⟨rfl, h0⟩))
      | exact wpAny_pure ⟨rfl, h0⟩
  · refine wpAny_bind (wpAny_rule ?_)
    show wpAny _ _ (standAt b1.pos >>= _) _ _ s
    exact wpAny_bind (wpAny_standAt (wpAny_bind (wpAny_mono h (fun jt z q => wpAny_pure ⟨rfl, q⟩) fun _ _ q => q)))
end
def tDcN2 (P : Program) (w : World) (K : PySem.W.Frag) (wi : TI) (g : TG) (wi1 : TI) (g1 : TG) (tk tv : TE) (vs vs1 : List Nat) : TE := fun σ H Q => wi σ H fun J H1 => ∀ (D : Addr) (o0 : Obj), H1 D = none → NOk P w D o0 [] → ∃ W : Nat → Nat → Hp → Prop, (∃ m, W 0 m (upd H1 D (exO D o0))) ∧ ∀ i m H, W i m H →
  (J.stop i H ∧ Q (.ref D) H) ∨ (J.go i H ∧ ∃ Nx : Hp → Prop, (∀ H', Nx H' → ∃ m', m' < m ∧ W (i + 1) m' H') ∧ ∀ x H', J.yld i H x H' → g x (wipe σ vs) H' fun σ2 H2 => wipe σ2 vs = wipe σ vs ∧ wi1 σ2 H2 fun J1 H4 => ∃ W1 : Nat → Nat → Hp → Prop, (∃ m, W1 0 m H4) ∧ ∀ j k H, W1 j k H →
    (J1.stop j H ∧ Nx H) ∨ (J1.go j H ∧ ∃ Nx1 : Hp → Prop, (∀ H', Nx1 H' → ∃ k', k' < k ∧ W1 (j + 1) k' H') ∧ ∀ x H', J1.yld j H x H' → g1 x (wipe σ2 vs1) H' fun σ3 H5 => wipe σ3 vs1 = wipe σ2 vs1 ∧ tk σ3 H5 fun y H6 => tv σ3 H6 fun z H7 =>
      ∃ (a : Addr) (k : NestedKey) (o : Obj) (xs : List NE), y = .ref a ∧ NkA K H7 a k ∧ DN P w K H7 D o xs ∧ xs.length < sizeLine ∧ ∀ o', NOk P w D o' (putN xs k a z) → Nx1 (upd H7 D (exO D o'))))
theorem pe_dcN2 {X : Cx} {kx vx a0 b0 a1 b1 : Expr} {sc : Scope} {own : List (Str × Nat)} {vs1 : List Nat} {ps : Pos} {wi wi1 : TI} {g g1 : TG} {tk tv : TE} (hc : X.calm = true) (hu : X.A.units + 64 < cLine) (hN : X.N.Nodup) (hi : PI X a0 b0 wi) (ok : BlkOk X.N X.env.scope sc own) (hv : ∀ i ∈ vs1, i ∈ own.map (·.2))
    (hg : ∀ (s : Shared) (H : Hp) (C : Addr) (cl : List (Str × Addr)) (fp : List Addr), PG (X.blk s H sc (compEnvC sc cl C X.env) fp) a0 g)
    (hi1 : ∀ (s : Shared) (H : Hp) (C : Addr) (cl : List (Str × Addr)) (fp : List Addr), PI (X.blk s H sc (compEnvC sc cl C X.env) fp) a1 b1 wi1)
    (hg1 : ∀ (s : Shared) (H : Hp) (C : Addr) (cl : List (Str × Addr)) (fp : List Addr), PG (X.blk s H sc (compEnvC sc cl C X.env) fp) a1 g1)
    (hk : ∀ (s : Shared) (H : Hp) (C : Addr) (cl : List (Str × Addr)) (fp : List Addr), PE (X.blk s H sc (compEnvC sc cl C X.env) fp) kx tk)
    (he : ∀ (s : Shared) (H : Hp) (C : Addr) (cl : List (Str × Addr)) (fp : List Addr), PE (X.blk s H sc (compEnvC sc cl C X.env) fp) vx tv)
    (hs : ∀ x : Value, foldedSetIterable b0 X.env x = pure x := by intro x; rfl) (hs1 : ∀ (e : Env) (x : Value), foldedSetIterable b1 e x = pure x := by intro _ _; rfl) :
    PE X (DC2 kx vx a0 b0 a1 b1 sc ps) (tDcN2 X.prog X.w X.K wi g wi1 g1 tk tv (own.map (·.2)) vs1) := by
  refine ⟨fun pins s σ H Q I h => ?_⟩
  show wpAny _ _ (eval (.DictComp kx vx [⟨a0, b0, [], 0⟩, ⟨a1, b1, [], 0⟩] sc ps) X.env) _ _ _
  rw [arm_eval_DictComp]
  refine wpAny_comprehension_free rfl hs (closure_ok fun y hy e => (ok.free y hy e).elim (fun k => I.ok.has y.1 (.inl k)) fun k => I.ok.has y.1 (.inr k)) ok.kind (fun y hy e => by rw [ok.uniq y hy, e]) ?_
  refine thn (hi.run pins s σ H _ I h) fun xv s1 hx => thn hx fun itv s2 ⟨it, fp, tn, J, H2, e, I2, T, st2, f2, q⟩ => ?_
  subst e
  refine wpAny_newObj_type (newEnv_comp ?_) (by show _ ≤ _; decide)
  have hDn := HOk.fresh I2.hok (Nat.le_refl s2.heap.objs.size)
  obtain ⟨W, ⟨m0, w0⟩, turn⟩ := q s2.heap.objs.size _ hDn (n_empty s2.heap (Inv.big I2))
  have I3 := Inv.laid (t' := s2.toks) (h' := s2.heap.push { cls := .type "dict", data := .dict #[] }) (o := exO s2.heap.objs.size { cls := .type "dict", data := .dict #[] }) I2 (fun b o e => Heap.get?_push_of_some _ e) (Nat.le_refl _) (exO_ok (Heap.get?_push_size s2.heap rfl))
  have sz : ∀ b ∈ fp, b < s2.heap.objs.size := fun b hb => by
    obtain ⟨o, e, _⟩ := T.obj 0 s2.heap st2 b hb
    exact Heap.lt_size e
  have f3 : ∀ b ∈ fp, FpOk X pins (upd H2 s2.heap.objs.size (exO s2.heap.objs.size { cls := .type "dict", data := .dict #[] })) b ∧ b < (s2.heap.push { cls := .type "dict", data := .dict #[] }).objs.size := fun b hb => by
    have hlt := sz b hb
    refine ⟨⟨by rw [upd_ne (Nat.ne_of_lt hlt)]; exact (f2 b hb).1, (f2 b hb).2⟩, ?_⟩
    rw [Heap.size_push]
    exact Nat.lt_succ_of_lt hlt
  have st3 := T.keep 0 s2.heap (s2.heap.push { cls := .type "dict", data := .dict #[] }) st2 fun b x o e => Heap.get?_push_of_some _ e
  have I4 := block_start I3 ok hN f3
  have pg := hg { heap := s2.heap.push { cls := .type "dict", data := .dict #[] }, gens := s2.gens, drawn := s2.drawn, toks := s2.toks, os := s2.os } (upd H2 s2.heap.objs.size (exO s2.heap.objs.size { cls := .type "dict", data := .dict #[] })) (s2.heap.push { cls := .type "dict", data := .dict #[] }).objs.size (cellsFrom ((s2.heap.push { cls := .type "dict", data := .dict #[] }).objs.size + 1) sc.names (cloFrom X.env.cells sc.names [])) fp
  have pg1 := hg1 { heap := s2.heap.push { cls := .type "dict", data := .dict #[] }, gens := s2.gens, drawn := s2.drawn, toks := s2.toks, os := s2.os } (upd H2 s2.heap.objs.size (exO s2.heap.objs.size { cls := .type "dict", data := .dict #[] })) (s2.heap.push { cls := .type "dict", data := .dict #[] }).objs.size (cellsFrom ((s2.heap.push { cls := .type "dict", data := .dict #[] }).objs.size + 1) sc.names (cloFrom X.env.cells sc.names [])) fp
  have pi1 := hi1 { heap := s2.heap.push { cls := .type "dict", data := .dict #[] }, gens := s2.gens, drawn := s2.drawn, toks := s2.toks, os := s2.os } (upd H2 s2.heap.objs.size (exO s2.heap.objs.size { cls := .type "dict", data := .dict #[] })) (s2.heap.push { cls := .type "dict", data := .dict #[] }).objs.size (cellsFrom ((s2.heap.push { cls := .type "dict", data := .dict #[] }).objs.size + 1) sc.names (cloFrom X.env.cells sc.names [])) fp
  have pk := hk { heap := s2.heap.push { cls := .type "dict", data := .dict #[] }, gens := s2.gens, drawn := s2.drawn, toks := s2.toks, os := s2.os } (upd H2 s2.heap.objs.size (exO s2.heap.objs.size { cls := .type "dict", data := .dict #[] })) (s2.heap.push { cls := .type "dict", data := .dict #[] }).objs.size (cellsFrom ((s2.heap.push { cls := .type "dict", data := .dict #[] }).objs.size + 1) sc.names (cloFrom X.env.cells sc.names [])) fp
  have pe := he { heap := s2.heap.push { cls := .type "dict", data := .dict #[] }, gens := s2.gens, drawn := s2.drawn, toks := s2.toks, os := s2.os } (upd H2 s2.heap.objs.size (exO s2.heap.objs.size { cls := .type "dict", data := .dict #[] })) (s2.heap.push { cls := .type "dict", data := .dict #[] }).objs.size (cellsFrom ((s2.heap.push { cls := .type "dict", data := .dict #[] }).objs.size + 1) sc.names (cloFrom X.env.cells sc.names [])) fp
  have nfp : ∀ b ∈ fp, (upd H2 s2.heap.objs.size (exO s2.heap.objs.size { cls := .type "dict", data := .dict #[] })) b = none := fun b hb => (f3 b hb).1.1
  have st4 := T.keep 0 _ (pushCells ((s2.heap.push { cls := .type "dict", data := .dict #[] }).push { cls := .type "dict", data := .dict #[] }) sc.names) st3 fun b x o e => pushCells_keeps sc.names _ b o (Heap.get?_push_of_some _ e)
  generalize hXB : (X.blk { heap := s2.heap.push { cls := .type "dict", data := .dict #[] }, gens := s2.gens, drawn := s2.drawn, toks := s2.toks, os := s2.os } (upd H2 s2.heap.objs.size (exO s2.heap.objs.size { cls := .type "dict", data := .dict #[] })) sc (compEnvC sc (cellsFrom ((s2.heap.push { cls := .type "dict", data := .dict #[] }).objs.size + 1) sc.names (cloFrom X.env.cells sc.names [])) (s2.heap.push { cls := .type "dict", data := .dict #[] }).objs.size X.env) fp) = XB at I4 pg pg1 pi1 pk pe
  have stat : ∀ {σ' : L2.St} {H' : Hp} {s' : Shared}, L2.Inv XB [] σ' H' s' → (∀ b ∈ fp, H' b = none) → ∀ b ∈ fp, FpOk XB [] H' b := fun {σ' H' s'} I' hn b hb => by
    subst hXB
    exact ⟨hn b hb, (I'.ok.exf b hb).1, I'.ok.exfs b hb, .inl hb, fun x c e => (I'.ok.exf b hb).2 x c e, fun p hp => by
      have z : p ∈ ([] : List (Addr × Obj)) ++ [] := hp
      simp at z⟩
  have loop := dc2_l0 (P := X.prog) (w := X.w) (A := X.A) (R := compPost (model X.prog X.w) X.A X.xe none (EP X pins σ Q) (Value.ref s2.heap.objs.size) (s2.heap.push { cls := .type "dict", data := .dict #[] }).objs.size) (kx := kx) (vx := vx) (a0 := a0) (b0 := b0) (a1 := a1) (b1 := b1) (sc := sc) (ps := ps) (it := Value.ref it) (acc := Value.ref s2.heap.objs.size) (ev := XB.env) (hs1 XB.env)
    (fun n s' => ∃ i H', L2.Inv XB [] (wipe σ (own.map (·.2))) H' s' ∧ tn i s'.heap ∧ (∀ b ∈ fp, H' b = none) ∧ W i n H') (fun n s5 ⟨i, H5, I5, st5, n5, w5⟩ => ?step) m0 ⟨0, _, I4, st4, nfp, w0⟩
  case step =>
    have eA : XB.A = X.A := by rw [← hXB]
    have eP : XB.prog = X.prog := by rw [← hXB]
    have eW : XB.w = X.w := by rw [← hXB]
    have eX : XB.xe = fun _ _ => False := by rw [← hXB]
    rcases turn i n H5 w5 with ⟨stop, qq⟩ | ⟨go, Nx, hNx, step⟩
    · have td := T.done XB (by rw [← hXB]) (by rw [← hXB]) (by rw [← hXB]) (by rw [← hXB]; exact hc) i [] s5 (wipe σ (own.map (·.2))) H5 (fun _ _ => False) I5 (stat I5 n5) st5 stop
      rw [eA] at td
      refine thnF td fun r s6 ⟨hr, I6⟩ => ?_
      subst hr
      subst hXB
      have I7 := Inv.call' I3 I6.os I6.base I6.hok I6.bare fun b hb => ⟨(f3 b hb).1.2.2.2.1, (f3 b hb).1.2.1, (f3 b hb).1.2.2.2.2.1, (f3 b hb).1.2.2.2.2.2⟩
      have nC : H5 (s2.heap.push { cls := .type "dict", data := .dict #[] }).objs.size = none := I6.free
      obtain ⟨m, hn, _⟩ := I6.loc
      obtain ⟨f0, f1, _, f3', f4, f5⟩ := Inv.fpOk I3 (Nat.le_refl _) nC
      exact ⟨m, hn, fun h'' sb => ⟨.ref s2.heap.objs.size, H5, Inv.turned I7 (fun b o hb e => (sb.2 b hb).trans e) f0 f1 f3' f4 f5, rfl, qq⟩⟩
    · have ti := T.item XB (by rw [← hXB]) (by rw [← hXB]) (by rw [← hXB]) (by rw [← hXB]; exact hc) i [] s5 (wipe σ (own.map (·.2))) H5 (fun _ _ => False) I5 (stat I5 n5) st5 go
      rw [eA] at ti
      refine thnF ti fun r s6 ⟨u, hr, h6⟩ => ?_
      subst hr
      refine thnF h6 fun _ s7 ⟨x, H7, I7, r7, y7, st7, n7⟩ => ?_
      have I7' := Inv.pinned I7 (stat I7 n7) (T.obj (i + 1) s7.heap st7)
      -- the end of a turn
      have fin : ∀ {s' : Shared} {H' : Hp} {σ8 : L2.St}, (wipe σ (own.map (·.2))).length = σ8.length → (∀ (j : Nat) v, (wipe σ (own.map (·.2)))[j]? = some (some v) → σ8[j]? = some (some v)) → L2.Inv XB ([] ++ pinsAt fp s7.heap) σ8 H' s' → Nx H' →
          ∃ m, m < n ∧ ∃ i H', L2.Inv XB [] (wipe σ (own.map (·.2))) H' s' ∧ tn i s'.heap ∧ (∀ b ∈ fp, H' b = none) ∧ W i m H' := fun {s' H' σ8} hl hk8 I' nx => by
        obtain ⟨m', hm, w'⟩ := hNx _ nx
        have pin' : ∀ b ∈ fp, ∀ o, s7.heap.get? b = some o → s'.heap.get? b = some o ∧ H' b = none := fun b hb o e => by
          have z := I'.pin (b, o) (List.mem_append_right _ (List.mem_append_right [] (mem_pinsAt hb e)))
          exact ⟨z.1, z.2.1⟩
        refine ⟨m', hm, i + 1, H', Inv.weak (Inv.unpinned I') hl hk8, T.keep (i + 1) s7.heap s'.heap st7 fun b hb o e => (pin' b hb o e).1, fun b hb => ?_, w'⟩
        obtain ⟨o, e, _⟩ := T.obj (i + 1) s7.heap st7 b hb
        exact (pin' b hb o e).2
      have hpg := pg.run ([] ++ pinsAt fp s7.heap) s7 (wipe σ (own.map (·.2))) H7 x u _ I7' r7 (step x H7 y7)
      rw [eA, eP, eW, eX] at hpg
      refine thnF hpg fun _ s8 ⟨σ8, H8, I8, hw8, q8⟩ => ?_
      have hl8 : (wipe σ (own.map (·.2))).length = σ8.length := by rw [← hw8, wipe_length]
      have hk9 : ∀ (j : Nat) v, (wipe σ (own.map (·.2)))[j]? = some (some v) → (wipe σ8 vs1)[j]? = some (some v) := fun j v e => by
        rw [← hw8] at e
        obtain ⟨e1, e2⟩ := wipe_some e
        rw [wipe_out fun z => e2 (hv j z)]
        exact e1
      have hpi := pi1.run ([] ++ pinsAt fp s7.heap) s8 σ8 H8 _ I8 q8
      rw [eA, eP, eW, eX] at hpi
      refine thnF hpi fun xv s10 hx => thnF hx fun itv s11 ⟨it1, fp1, tn1, J1, H11, e1, I11, T1, st11, f11, W1, ⟨m1, w1⟩, turn1⟩ => ?_
      subst e1
      have stat1 : ∀ {H' : Hp}, (∀ b ∈ fp1, H' b = none) → ∀ b ∈ fp1, FpOk XB ([] ++ pinsAt fp s7.heap) H' b := fun hn b hb => ⟨hn b hb, (f11 b hb).2⟩
      have loop1 := dc2_l1 (P := X.prog) (w := X.w) (A := X.A) (R := fun r s' => match r with
          | .ok _ => ∃ m, m < n ∧ ∃ i H', L2.Inv XB [] (wipe σ (own.map (·.2))) H' s' ∧ tn i s'.heap ∧ (∀ b ∈ fp, H' b = none) ∧ W i m H'
          | .error _ => False) (kx := kx) (vx := vx) (a0 := a0) (b0 := b0) (a1 := a1) (b1 := b1) (sc := sc) (ps := ps) (it := Value.ref it1) (ev := XB.env) (D := s2.heap.objs.size)
          (fun k s' => ∃ j H', L2.Inv XB ([] ++ pinsAt fp s7.heap) (wipe σ8 vs1) H' s' ∧ tn1 j s'.heap ∧ (∀ b ∈ fp1, H' b = none) ∧ W1 j k H') (fun k s12 ⟨j, H12, I12, st12, n12, w12⟩ => ?inner) m1 (z := s11) ⟨0, H11, I11.weak (wipe_length _ _) (fun j v e => (wipe_some e).1), st11, fun b hb => (f11 b hb).1, w1⟩
      case inner =>
        rcases turn1 j k H12 w12 with ⟨stop1, nx1⟩ | ⟨go1, Nx1, hNx1, step1⟩
        · have td := T1.done XB (by rw [← hXB]) (by rw [← hXB]) (by rw [← hXB]) (by rw [← hXB]; exact hc) j _ s12 (wipe σ8 vs1) H12 (fun _ _ => False) I12 (stat1 n12) st12 stop1
          rw [eA, eP, eW] at td
          refine thnF td fun r s13 ⟨hr, I13⟩ => ?_
          subst hr
          exact fin (hl8.trans (wipe_length σ8 vs1).symm) hk9 I13 nx1
        · have ti := T1.item XB (by rw [← hXB]) (by rw [← hXB]) (by rw [← hXB]) (by rw [← hXB]; exact hc) j _ s12 (wipe σ8 vs1) H12 (fun _ _ => False) I12 (stat1 n12) st12 go1
          rw [eA, eP, eW] at ti
          refine thnF ti fun r s13 ⟨u1, hr, h13⟩ => ?_
          subst hr
          refine thnF h13 fun _ s14 ⟨x1, H14, I14, r14, y14, st14, n14⟩ => ?_
          have I14' := Inv.pinned I14 (stat1 n14) (T1.obj _ _ st14)
          have hpg1 := pg1.run _ s14 (wipe σ8 vs1) H14 x1 u1 _ I14' r14 (step1 x1 H14 y14)
          rw [eA, eP, eW, eX] at hpg1
          refine thnF hpg1 fun _ s15 ⟨σ15, H15, I15, hw15, q15⟩ => ?_
          have hpk := pk.run _ s15 σ15 H15 _ I15 q15
          rw [eA, eP, eW, eX] at hpk
          refine thnF hpk fun z s16 ⟨yk, H16, I16, r16, q16⟩ => ?_
          have hpe := pe.run _ s16 σ15 H16 _ I16 q16
          rw [eA, eP, eW, eX] at hpe
          refine thnF hpe fun z2 s17 ⟨yv, H17, I17, r17, a, ky, o, xs, ek, ka, dn, hz17, nx⟩ => ?_
          subst ek
          obtain rfl : z = Value.ref a := r16
          have fin1 : ∀ {s' : Shared} {H' : Hp}, L2.Inv XB (([] ++ pinsAt fp s7.heap) ++ pinsAt fp1 s14.heap) σ15 H' s' → Nx1 H' → ∃ m, m < k ∧ ∃ j H', L2.Inv XB ([] ++ pinsAt fp s7.heap) (wipe σ8 vs1) H' s' ∧ tn1 j s'.heap ∧ (∀ b ∈ fp1, H' b = none) ∧ W1 j m H' := fun {s' H'} I' nx => by
            obtain ⟨m', hm, w'⟩ := hNx1 H' nx
            have pin' : ∀ b ∈ fp1, ∀ o, s14.heap.get? b = some o → s'.heap.get? b = some o ∧ H' b = none := fun b hb o e => by
              have z := I'.pin (b, o) (List.mem_append_right _ (List.mem_append_right _ (mem_pinsAt hb e)))
              exact ⟨z.1, z.2.1⟩
            refine ⟨m', hm, j + 1, H', Inv.weak (Inv.unpinned I') (by rw [← hw15, wipe_length]) (fun j v e => by rw [← hw15] at e; exact (wipe_some e).1), T1.keep _ _ _ st14 fun b hb o e => (pin' b hb o e).1, fun b hb => ?_, w'⟩
            obtain ⟨o, e, _⟩ := T1.obj _ _ st14 b hb
            exact (pin' b hb o e).2
          have hX : X.prog = XB.prog ∧ X.w = XB.w ∧ X.K = XB.K := by rw [← hXB]; exact ⟨rfl, rfl, rfl⟩
          subst hXB
          exact n_dictSet (X := X.blk _ _ sc _ fp) hu I17 ka dn hz17 r17 fun s18 o' no I18 => fin1 I18 (nx o' no)
      have ts := T1.self X.A 0 s11 (fun jt z => codeAny (model X.prog X.w) X.A (.compLoop (DC2 kx vx a0 b0 a1 b1 sc ps) 1 jt (Value.ref s2.heap.objs.size) XB.env) _ z) (fun _ _ => False) st11 loop1
      rw [eP, eW] at ts
      exact dc2_s1 loop1 (wpAny_mono ts (fun _ _ q => q) fun _ _ q => q.elim)
  subst hXB
  exact codeAny_compStart_dict loop (T.self X.A 0 _ _ _ st4 loop)
end Ow
/-! a new dict, to be one with nested keys -/
namespace Ow
open PySem PySem.Spec PyProof.Rows L2
def tDNewN (P : Program) (w : World) : TE := fun _ H Q => ∀ p o, H p = none → NOk P w p o [] → Q (.ref p) (upd H p (exO p o))
theorem pe_dnewN {X : Cx} {pos : Pos} : PE X (.Dict [] [] pos) (tDNewN X.prog X.w) := ⟨fun pins s σ H Q I h =>
  wpAny_Dict_empty ⟨.ref s.heap.objs.size, _, I.laid (a := s.heap.objs.size) (o := exO s.heap.objs.size { cls := .type "dict", data := .dict #[] }) (t' := s.toks) (fun _ _ q => Heap.get?_push_of_some _ q) (Nat.le_refl _) (exO_ok (Heap.get?_push_size s.heap rfl)), rfl, h _ _ (I.hok.fresh (Nat.le_refl _)) (n_empty s.heap I.big)⟩⟩
theorem NRel.keys {xs : List NE} {ys : List (NestedKey × Addr × Value)} (r : NRel xs ys) : xs.map (·.1) = ys.map (·.1) := by
  induction r with
  | nil => rfl
  | cons _ _ ih => rw [List.map_cons, List.map_cons, ih]
theorem NOk.nodup {P : Program} {w : World} {d : Addr} {o : Obj} {xs : List NE} (h : NOk P w d o xs) : (xs.map (·.1)).Nodup := by
  obtain ⟨ys, es, ep, r, _, _, _, nd⟩ := h.ex
  rw [r.keys]
  exact nd
theorem nodup_len {α : Type} [DecidableEq α] : ∀ (l m : List α), l.Nodup → (∀ x ∈ l, x ∈ m) → l.length ≤ m.length
  | [], m, _, _ => Nat.zero_le _
  | x :: l, m, d, h => by
    have d' := List.nodup_cons.mp d
    have hx := h x List.mem_cons_self
    have ih := nodup_len l (m.erase x) d'.2 fun y my => (List.mem_erase_of_ne (fun e => d'.1 (by rw [← e]; exact my))).mpr (h y (List.mem_cons_of_mem _ my))
    rw [List.length_erase_of_mem hx] at ih
    have := List.length_pos_of_mem hx
    rw [List.length_cons]
    omega
/-- what is read at a stored key -/
theorem atN_mem {xs : List NE} {k : NestedKey} {v : V} (h : atN xs k = some v) : ∃ b, (k, b, v) ∈ xs := by
  unfold atN at h
  cases e : xs.find? fun e => decide (e.1 = k) with
  | none => rw [e] at h; cases h
  | some x =>
    rw [e] at h
    cases h
    have m := List.mem_of_find?_eq_some e
    have p := List.find?_some (p := fun e : NE => decide (e.1 = k)) e
    obtain ⟨x1, x2, x3⟩ := x
    have : x1 = k := of_decide_eq_true p
    subst this
    exact ⟨x2, m⟩
theorem atN_none {xs : List NE} {k : NestedKey} (h : atN xs k = none) : ∀ e ∈ xs, e.1 ≠ k := by
  unfold atN at h
  cases e : xs.find? fun e => decide (e.1 = k) with
  | some x => rw [e] at h; cases h
  | none =>
    intro x m y
    have := List.find?_eq_none.mp e x m
    exact this (decide_eq_true y)
theorem atN_put {xs : List NE} {k : NestedKey} {b : Addr} {v : V} (n : atN xs k = none) : atN (putN xs k b v) k = some v := by
  unfold putN
  rw [n, if_neg (by decide)]
  unfold atN at n ⊢
  rw [List.find?_append]
  cases e : xs.find? fun e => decide (e.1 = k) with
  | some x => rw [e] at n; cases n
  | none =>
    show (([(k, b, v)] : List NE).find? fun e => decide (e.1 = k)).map (fun e => e.2.2) = some v
    rw [List.find?_cons_of_pos (p := fun e : NE => decide (e.1 = k)) (decide_eq_true rfl)]
    rfl
theorem putN_new {xs : List NE} {k : NestedKey} {b : Addr} {v : V} (n : atN xs k = none) : putN xs k b v = xs ++ [(k, b, v)] := by
  unfold putN
  rw [n, if_neg (by decide)]
/-- a dict's object is told again after others were changed -/
theorem DN.at' {P : Program} {w : World} {K : PySem.W.Frag} {H H' : Hp} {d : Addr} {o : Obj} {xs : List NE} (h : DN P w K H d o xs) (e : H' d = some (exO d o)) (k : ∀ e ∈ xs, NkA K H' e.2.1 e.1) : DN P w K H' d o xs := ⟨e, h.ok, k⟩
theorem NkA.same {K : PySem.W.Frag} {H H' : Hp} {a : Addr} {k : NestedKey} (s : ∀ a xs, SqT K H a xs → SqT K H' a xs) (h : NkA K H a k) : NkA K H' a k := ⟨Nk.tk s k _ h.1, h.2⟩
end Ow
namespace Ow
open PySem PySem.Spec PyProof.Rows L2
theorem atN_over {xs : List NE} {k : NestedKey} {b : Addr} {v u : V} (h : atN xs k = some u) : atN (putN xs k b v) k = some v := by
  unfold putN
  rw [h, if_pos (show (some u).isSome = true from rfl)]
  unfold atN at h ⊢
  induction xs with
  | nil => cases h
  | cons e r ih =>
    rw [List.map_cons]
    by_cases z : e.1 = k
    · rw [if_pos z, List.find?_cons_of_pos (p := fun e : NE => decide (e.1 = k)) (a := (e.1, e.2.1, v)) (decide_eq_true z)]
      rfl
    · rw [if_neg z, List.find?_cons_of_neg (p := fun e : NE => decide (e.1 = k)) (by simpa using z)]
      refine ih ?_
      rw [List.find?_cons_of_neg (p := fun e : NE => decide (e.1 = k)) (by simpa using z)] at h
      exact h
theorem putN_mem {xs : List NE} {k : NestedKey} {b : Addr} {v : V} {e : NE} (m : e ∈ putN xs k b v) : (∃ e' ∈ xs, e = if e'.1 = k then (e'.1, e'.2.1, v) else e') ∨ e = (k, b, v) := by
  unfold putN at m
  by_cases n : (atN xs k).isSome = true
  · rw [if_pos n] at m
    obtain ⟨e', m', z⟩ := List.mem_map.mp m
    exact .inl ⟨e', m', z.symm⟩
  · rw [if_neg n] at m
    rcases List.mem_append.mp m with m | m
    · by_cases z : e.1 = k
      · refine absurd ?_ n
        unfold atN
        cases f : xs.find? fun e => decide (e.1 = k) with
        | none => exact absurd (decide_eq_true z) (List.find?_eq_none.mp f e m)
        | some y => rfl
      · exact .inl ⟨e, m, by rw [if_neg z]⟩
    · exact .inr (by simpa using m)
end Ow
namespace K1
open PySem PySem.Spec PyProof.Rows L2 Ow
abbrev swrite_number : Stmt := topS 10
abbrev Nwrite_number : List Str := ["number", "data"]
theorem scwrite_number : FnScope Nwrite_number ["number"] (defScope swrite_number) := ⟨rfl, rfl, rfl, by decide +kernel, rfl, by decide +kernel, by decide +kernel⟩
abbrev N_law_number : List Str := ["number", "data"]
/-- a def that hands back a new list of ints -/
def MkL (H : Hp) (Q : VK) (xs : List Int) : Prop := ∀ H' p, Same H H' → H p = none → H' p = some (.lst (xs.map V.int)) → Q (.ref p) H'
def spNumber : Sp := fun vs H Q _ => ∃ n : Nat, vs = [.int (n : Int)] ∧ n < 2 ^ 140 ∧ MkL H Q (numB n)
def mu1 : L2.St → Hp → Nat := fun σ _ => match σ with
  | some (.int n) :: _ => n.toNat
  | _ => 0
section
variable {P : Program} {w : World} {K : PySem.W.Frag} {mg : Str → Option Value} {base : Heap}
theorem ok_number {f : Addr} {fd : FuncData} (F : Fun K "write_number" "write_number" swrite_number f fd) (T : Bl mg) :
    FnOk P w K mg base CX0 1 f fd ["number"] spNumber := by
  refine F.ok scwrite_number (fun vs H Q E h => ?_) (fun cdv A outer s H vs Q E hr h => ?_)
  · obtain ⟨n, rfl, _⟩ := h
    rfl
  · obtain ⟨N, rfl, hN, q⟩ := h
    refine ⟨_, (pss_cons (ps_set (i := 1) scwrite_number.nd rfl (.inl rfl) (pe_lst pa_nil))
      (pss_cons (ps_while PassesOwn.never (pt_cmpR op_gt (pv 0) pe_int (nomark _)) (pss_cons (ps_expr (pe_bm PySem.F.plainAttrs_list PySem.F.slot_list_append PySem.F.type_list_append mt_append (pv 1) (pa_cons (pe_op op_add pe_int (pe_op op_and (pv 0) pe_int)) pa_nil)))
        (pss_one (ps_set (i := 0) scwrite_number.nd rfl (.inl rfl) (pe_op op_shr (pv 0) pe_int)))))
      (pss_cons (ps_expr (pe_bm PySem.F.plainAttrs_list PySem.F.slot_list_append PySem.F.type_list_append mt_append (pv 1) (pa_cons (pv 0) pa_nil)))
      (pss_one (ps_ret (pv 1)))))), ?_⟩
    have lN := numB_20 hN
    refine ⟨Nat.zero_le _, fun o no => ?_⟩
    refine while_by (fun σ H2 => ∃ (n : Nat) (acc : List Int), σ = [some (.int (n : Int)), some (.ref o)] ∧ Same H H2 ∧ H2 o = some (.lst (acc.map V.int)) ∧ acc ++ numB n = numB N) mu1
      ⟨N, [], rfl, Same.new no, upd_same, rfl⟩ ?_ ?_
    · rintro σ H2 ⟨n, acc, rfl, sm, eo, ea⟩
      have la : acc.length ≤ 21 := by
        have := congrArg List.length ea
        rw [List.length_append] at this
        omega
      refine ⟨_, rfl, _, _, rfl, rfl, _, rfl, ite2 (fun e => ?_) (fun e => ?_)⟩
      · have e1 : (127 : Int) < (n : Int) := of_decide_eq_true e
        refine ⟨_, rfl, .inl ⟨rfl, _, .inl (.inl eo)⟩, _, rfl, (n : Int), 127, rfl, rfl, 128, _, rfl, rfl, o, acc.map V.int, _, rfl, rfl, eo, ?_, ?_⟩
        · rw [List.length_map]
          exact small la (by decide)
        · refine ⟨_, rfl, (n : Int), 7, rfl, rfl, (by show (0 : Int) ≤ 7; decide), ⟨n / 128, acc ++ [128 + (n : Int) % 128], ?_, Same.over sm no, ?_, ?_⟩, ?_⟩
          · rfl
          · rw [upd_same, List.map_append, bitAnd_m7]
            rfl
          · rw [numB_big (by omega)] at ea
            rw [List.append_assoc]
            exact ea
          · show n / 128 < n
            omega
      · have e1 : ¬ (127 : Int) < (n : Int) := fun z => e (decide_eq_true z)
        rw [numB_small (by omega)] at ea
        refine ⟨_, rfl, .inl ⟨rfl, _, .inl (.inl eo)⟩, _, rfl, o, acc.map V.int, _, rfl, rfl, eo, ?_, ?_⟩
        · rw [List.length_map]
          exact small la (by decide)
        · refine ⟨_, rfl, q _ _ (Same.over sm no) no ?_⟩
          rw [upd_same, ← ea, List.map_append]
          rfl
    · rintro σ H2 Q1 Q2 hq ⟨v, hv, i, j, hi, hj, k, hk, z⟩
      exact ⟨v, hv, i, j, hi, hj, k, hk, hq _ _ z⟩
end
end K1
namespace K1
open PySem PySem.Spec PyProof.Rows L2 Ow
abbrev swrite_integer : Stmt := topS 11
abbrev Nwrite_integer : List Str := ["number", "sign"]
theorem scwrite_integer : FnScope Nwrite_integer ["number"] (defScope swrite_integer) := ⟨rfl, rfl, rfl, by decide +kernel, rfl, by decide +kernel, by decide +kernel⟩
abbrev swrite_string : Stmt := topS 12
abbrev Nwrite_string : List Str := ["text", "char"]
theorem scwrite_string : FnScope Nwrite_string ["text"] (defScope swrite_string) := ⟨rfl, rfl, rfl, by decide +kernel, rfl, by decide +kernel, by decide +kernel⟩
abbrev swrite_value : Stmt := topS 13
abbrev Nwrite_value : List Str := ["value"]
theorem scwrite_value : FnScope Nwrite_value ["value"] (defScope swrite_value) := ⟨rfl, rfl, rfl, by decide +kernel, rfl, by decide +kernel, by decide +kernel⟩
abbrev swrite_row : Stmt := topS 14
abbrev Nwrite_row : List Str := ["row", "data", "value"]
theorem scwrite_row : FnScope Nwrite_row ["row"] (defScope swrite_row) := ⟨rfl, rfl, rfl, by decide +kernel, rfl, by decide +kernel, by decide +kernel⟩
def spInteger : Sp := fun vs H Q _ => ∃ i : Int, vs = [.int i] ∧ i.natAbs < 2 ^ 140 ∧ MkL H Q (intB i)
def spString : Sp := fun vs H Q _ => ∃ z : Str, vs = [.str z] ∧ Pr z ∧ z.length ≤ 200 ∧ MkL H Q (strB z)
def spVB : Sp := fun vs H Q _ => ∃ x : V, vs = [x] ∧ Scal x ∧ MkL H Q (valB x)
def spRB (K : PySem.W.Frag) : Sp := fun vs H Q _ => ∃ (a : Addr) (xs : List V), vs = [.ref a] ∧ SqT K H a xs ∧ (∀ x ∈ xs, Scal x) ∧ xs.length ≤ 10 ∧ MkL H Q (rowB xs)
theorem abs_eq (i : Int) : (if i < 0 then -i else i) = ((i.natAbs : Nat) : Int) := by split <;> omega
theorem take_snoc {α : Type} {xs : List α} {i : Nat} {x : α} (h : xs[i]? = some x) : xs.take (i + 1) = xs.take i ++ [x] := by
  rw [List.take_add_one, h]
  rfl
theorem cp_take {z : Str} {i c : Nat} (h : z.cps[i]? = some c) : (cpB z).take (i + 1) = (cpB z).take i ++ [(c : Int)] := by
  refine take_snoc ?_
  unfold cpB
  rw [List.getElem?_map]
  have : z.cps.toList[i]? = some c := by rw [Array.getElem?_toList]; exact h
  rw [this]
  rfl
section
variable {P : Program} {w : World} {K : PySem.W.Frag} {mg : Str → Option Value} {base : Heap}
theorem ok_integer {f : Addr} {fd : FuncData} (F : Fun K "write_integer" "write_integer" swrite_integer f fd) (T : Bl mg)
    (Dwrite_number : Kn P w K mg base 1 "write_number" ["number"] spNumber) :
    FnOk P w K mg base CX0 2 f fd ["number"] spInteger := by
  refine F.ok scwrite_integer (fun vs H Q E h => ?_) (fun cdv A outer s H vs Q E hr h => ?_)
  · obtain ⟨i, rfl, _⟩ := h
    rfl
  · obtain ⟨i, rfl, hi, q⟩ := h
    refine ⟨_, (pss_cons (ps_set (i := 1) scwrite_integer.nd rfl (.inl rfl) (pe_ifExp (pt_cmpR op_lt (pv 0) pe_int (nomark _)) pe_int pe_int))
      (pss_one (ps_ret (pe_op op_cat (pe_lst (pa_cons (pv 1) pa_nil)) (pe_kn Dwrite_number hr (pa_cons (pe_callB call_abs (by rfl) T.abs (by decide +kernel) (pa_cons (pv 0) pa_nil)) pa_nil)))))), ?_⟩
    have ln := numB_20 hi
    have fin : ∀ (t : Addr) (nt : H t = none) (s : Int) (hs : s = if i < 0 then 1 else 0) (H1 : Hp) (p : Addr), Same (upd H t (.lst [.int s])) H1 → (upd H t (.lst [.int s])) p = none → H1 p = some (.lst ((numB i.natAbs).map V.int)) →
        rCat (.ref t) (.ref p) H1 Q := fun t nt s hs H1 p sm np hp => by
      refine ⟨t, p, [.int s], (numB i.natAbs).map V.int, rfl, rfl, sm _ _ upd_same, hp, ?_, fun u nu => ?_⟩
      · rw [List.length_map]
        exact sz _ (by show 1 + (numB i.natAbs).length ≤ 1000; omega)
      · refine q _ _ (((Same.new nt).trans sm).trans (Same.new nu)) (((Same.new nt).trans sm).free nu) ?_
        rw [upd_same, hs]
        rfl
    refine ⟨_, rfl, _, _, rfl, rfl, _, rfl, ite2 (fun e => ?_) (fun e => ?_)⟩
    · have e1 : i < 0 := of_decide_eq_true e
      refine ⟨_, rfl, sz 1, fun t nt => ⟨_, rfl, i, rfl, i.natAbs, by rw [abs_eq]; rfl, hi, fun H1 p sm np hp => fin t nt 1 (by rw [if_pos e1]) H1 p sm np hp⟩⟩
    · have e1 : ¬ i < 0 := fun z => e (decide_eq_true z)
      refine ⟨_, rfl, sz 1, fun t nt => ⟨_, rfl, i, rfl, i.natAbs, by rw [abs_eq]; rfl, hi, fun H1 p sm np hp => fin t nt 0 (by rw [if_neg e1]) H1 p sm np hp⟩⟩
theorem ok_string {f : Addr} {fd : FuncData} (F : Fun K "write_string" "write_string" swrite_string f fd) (T : Bl mg)
    (Dwrite_number : Kn P w K mg base 1 "write_number" ["number"] spNumber) :
    FnOk P w K mg base CX0 2 f fd ["text"] spString := by
  refine F.ok scwrite_string (fun vs H Q E h => ?_) (fun cdv A outer s H vs Q E hr h => ?_)
  · obtain ⟨z, rfl, _⟩ := h
    rfl
  · obtain ⟨z, rfl, pz, lz, q⟩ := h
    refine ⟨_, (pss_one (ps_ret (pe_op op_cat (pe_kn Dwrite_number hr (pa_cons (pe_callB call_len_str (by rfl) T.len PySem.boot_len (pa_cons (pv 0) pa_nil)) pa_nil)) (pe_lc (own := [("char", 1)]) (g := gName 1) rfl scwrite_string.nd (pi_str (pv 0)) (blkOk_by (own := [("char", 1)]) (N := Nwrite_string) (sc := defScope swrite_string) (by decide +kernel)) (fun _ _ _ _ _ => pg_name (i := 1) scwrite_string.nd rfl (Or.inl rfl)) (fun _ _ _ _ _ => pts_nil) (fun _ _ _ _ _ => (pe_callB call_ord (by rfl) T.ord (by decide +kernel) (pa_cons (pv 1) pa_nil))))))), ?_⟩
    refine ⟨_, rfl, z, rfl, Nat.le_trans lz (by decide), z.length, rfl, Nat.lt_of_le_of_lt lz (by decide), fun H1 p sm np hp => ?_⟩
    refine ⟨_, rfl, z, rfl, fun D nD => lc_str (x := z) (fun i H4 => H4 D = some (.lst (((cpB z).take i).map V.int)) ∧ Same H1 H4) ⟨upd_same, Same.new nD⟩ (fun i c H4 hc hP => ?_) (fun H4 hP => ?_)⟩
    · obtain ⟨eD, s4⟩ := hP
      refine ⟨rfl, ?_⟩
      refine ⟨_, rfl, _, rfl, rfl, _, eD, ?_, ?_, Same.over s4 nD⟩
      · rw [List.length_map, List.length_take, cpB_len]
        exact small (m := 200) (by omega) (by decide)
      · rw [upd_same, cp_take hc, List.map_append]
        rfl
    · obtain ⟨eD, s4⟩ := hP
      have e : (cpB z).take z.cps.size = cpB z := List.take_of_length_le (by rw [cpB_len]; exact Nat.le_refl _)
      rw [e] at eD
      have ln := strB_len lz
      refine ⟨p, D, _, _, rfl, rfl, s4 _ _ hp, eD, ?_, fun u nu => q _ _ ((sm.trans s4).trans (Same.new nu)) ((sm.trans s4).free nu) ?_⟩
      · rw [← List.length_append, ← List.map_append, List.length_map]
        exact sz _ (Nat.le_trans ln (by decide))
      · rw [upd_same, ← List.map_append]
        rfl
theorem ok_wvalue {f : Addr} {fd : FuncData} (F : Fun K "write_value" "write_value" swrite_value f fd) (T : Bl mg)
    (Dwrite_string : Kn P w K mg base 2 "write_string" ["text"] spString)
    (Dwrite_integer : Kn P w K mg base 2 "write_integer" ["number"] spInteger) :
    FnOk P w K mg base CX0 3 f fd ["value"] spVB := by
  refine F.ok scwrite_value (fun vs H Q E h => ?_) (fun cdv A outer s H vs Q E hr h => ?_)
  · obtain ⟨i, rfl, _⟩ := h
    rfl
  · obtain ⟨x, rfl, sx, q⟩ := h
    refine ⟨_, (pss_cons (ps_if (pt_val (pe_callB call_isi (by rfl) T.isinstance (by decide +kernel) (pa_cons (pv 0) (pa_cons (pe_ty "str" (by rfl) T.str (by decide +kernel)) pa_nil)))) (pss_one (ps_ret (pe_op op_cat (pe_lst (pa_cons pe_int pa_nil)) (pe_kn Dwrite_string hr (pa_cons (pv 0) pa_nil))))) pss_nil)
      (pss_one (ps_ret (pe_op op_cat (pe_lst (pa_cons pe_int pa_nil)) (pe_kn Dwrite_integer hr (pa_cons (pv 0) pa_nil)))))), ?_⟩
    have fin : ∀ (t : Addr) (nt : H t = none) (s : Int) (bs : List Int) (hs : valB x = s :: bs) (H1 : Hp) (p : Addr), Same (upd H t (.lst [.int s])) H1 → (upd H t (.lst [.int s])) p = none → H1 p = some (.lst (bs.map V.int)) →
        rCat (.ref t) (.ref p) H1 Q := fun t nt s bs hs H1 p sm np hp => by
      have l := valB_len sx
      rw [hs, List.length_cons] at l
      refine ⟨t, p, [.int s], bs.map V.int, rfl, rfl, sm _ _ upd_same, hp, ?_, fun u nu => ?_⟩
      · rw [List.length_map]
        exact sz _ (by show 1 + bs.length ≤ 1000; omega)
      · refine q _ _ (((Same.new nt).trans sm).trans (Same.new nu)) (((Same.new nt).trans sm).free nu) ?_
        rw [upd_same, hs]
        rfl
    rcases sx with ⟨i, rfl, hi⟩ | ⟨z, rfl, pz, lz⟩
    · refine ⟨_, rfl, _, _, .type "int", .type "str", false, rfl, .ty _, .base (.int i), kit_ty (by decide +kernel), ?_⟩
      refine ⟨_, rfl, iteF ?_⟩
      exact ⟨sz 1, fun t nt => ⟨_, rfl, i, rfl, hi, fun H1 p sm np hp => fin t nt 0 _ rfl H1 p sm np hp⟩⟩
    · refine ⟨_, rfl, _, _, .type "str", .type "str", true, rfl, .ty _, .base (.str z), kit_ty (by decide +kernel), ?_⟩
      refine ⟨_, rfl, iteT ?_⟩
      exact ⟨sz 1, fun t nt => ⟨_, rfl, z, rfl, pz, lz, fun H1 p sm np hp => fin t nt 1 _ rfl H1 p sm np hp⟩⟩
theorem rowB_eq (xs : List V) : rowB xs = numB xs.length ++ (xs.map valB).flatten := by
  unfold rowB listB
  rw [List.length_map]
theorem row_pre {xs : List V} {i : Nat} {x : V} (h : xs[i]? = some x) :
    numB xs.length ++ ((xs.take (i + 1)).map valB).flatten = (numB xs.length ++ ((xs.take i).map valB).flatten) ++ valB x := by
  rw [take_snoc h, List.map_append, List.flatten_append, List.append_assoc]
  simp
theorem row_pre_len {xs : List V} (h : ∀ x ∈ xs, Scal x) (l : xs.length ≤ 10) (i : Nat) : (numB xs.length ++ ((xs.take i).map valB).flatten).length ≤ 2300 := by
  have h1 := flat_len (xs := (xs.take i).map valB) (b := 222) fun y m => by
    obtain ⟨x, mx, rfl⟩ := List.mem_map.mp m
    exact valB_len (h x (List.mem_of_mem_take mx))
  rw [List.length_map, List.length_take] at h1
  have h2 := numB_20 (n := xs.length) (Nat.lt_of_le_of_lt l (by decide))
  rw [List.length_append]
  have h3 : min i xs.length * 222 ≤ 10 * 222 := Nat.mul_le_mul_right _ (by omega)
  omega
theorem ok_wrow {f : Addr} {fd : FuncData} (F : Fun K "write_row" "write_row" swrite_row f fd) (T : Bl mg)
    (Dwrite_number : Kn P w K mg base 1 "write_number" ["number"] spNumber)
    (Dwrite_value : Kn P w K mg base 3 "write_value" ["value"] spVB) :
    FnOk P w K mg base CX0 4 f fd ["row"] (spRB K) := by
  refine F.ok scwrite_row (fun vs H Q E h => ?_) (fun cdv A outer s H vs Q E hr h => ?_)
  · obtain ⟨a, xs, rfl, _⟩ := h
    rfl
  · obtain ⟨a, xs, rfl, hx, sx, lx, q⟩ := h
    refine ⟨_, (pss_cons (ps_set (i := 1) scwrite_row.nd rfl (.inl rfl) (pe_kn Dwrite_number hr (pa_cons (pe_callB call_len_seq (by rfl) T.len PySem.boot_len (pa_cons (pv 0) pa_nil)) pa_nil)))
      (pss_cons (ps_for PassesOwn.never rfl (pi_tup (pv 0)) (pg_name (i := 2) scwrite_row.nd rfl (.inl rfl)) (pss_one (ps_expr (pe_bm PySem.F.plainAttrs_list PySem.F.slot_list_extend PySem.F.type_list_extend mt_extend (pv 1) (pa_cons (pe_kn Dwrite_value hr (pa_cons (pv 2) pa_nil)) pa_nil)))))
      (pss_one (ps_ret (pv 1))))), ?_⟩
    refine ⟨_, rfl, a, xs, rfl, .inr hx, xs.length, rfl, Nat.lt_of_le_of_lt lx (by decide), fun H1 o sm no ho => ?_⟩
    refine ⟨_, rfl, a, rfl, ⟨_, Tk.same sm _ _ hx⟩, for_tup (K := K) (a := a) (xs := xs) (fun i σ H4 => ∃ y2 : Option V, σ = [some (.ref a), some (.ref o), y2] ∧ Same H H4 ∧ H4 o = some (.lst ((numB xs.length ++ ((xs.take i).map valB).flatten).map V.int)))
      ⟨none, rfl, sm, by rw [ho]; simp⟩ (fun i σ H4 hi hP => ?_) (fun i x σ H4 hi hP => ?_) (fun σ H4 hP => ?_)⟩
    · obtain ⟨y2, _, s4, _⟩ := hP
      exact Tk.same s4 _ _ hx
    · obtain ⟨y2, rfl, s4, eo⟩ := hP
      refine ⟨_, rfl, .inl ⟨rfl, _, .inl (.inl eo)⟩, _, rfl, x, rfl, sx x (List.mem_of_getElem? hi), fun H5 p s5 np hp => ?_⟩
      refine ⟨o, p, _, _, rfl, rfl, s5 _ _ eo, hp, ?_, _, rfl, Same.over (s4.trans s5) no, ?_⟩
      · rw [← List.length_append, ← List.map_append, List.length_map, ← row_pre hi]
        exact Nat.le_trans (row_pre_len sx lx _) (by decide)
      · rw [upd_same, row_pre hi, ← List.map_append]
    · obtain ⟨y2, rfl, s4, eo⟩ := hP
      rw [List.take_length, ← rowB_eq] at eo
      exact ⟨_, rfl, q _ _ s4 no eo⟩
end
end K1
namespace K1
open PySem PySem.Spec PyProof.Rows L2 Ow
abbrev N_law_listed : List Str := ["parts", "data", "part"]
abbrev N_law_string : List Str := ["text", "chars", "codes", "char"]
abbrev N_law_value_bytes : List Str := ["value"]
abbrev N_law_row_bytes : List Str := ["row", "value"]
/-- the lists of ints at the addresses -/
def Parts (H : Hp) (qs : List (Addr × List Int)) : Prop := ∀ t ∈ qs, H t.1 = some (.lst (t.2.map V.int))
def refs (qs : List (Addr × List Int)) : List V := qs.map fun t => .ref t.1
theorem Parts.same {H H' : Hp} {qs : List (Addr × List Int)} (s : Same H H') (h : Parts H qs) : Parts H' qs := fun t m => s _ _ (h t m)
theorem refs_get {qs : List (Addr × List Int)} {i : Nat} {x : V} (h : (refs qs)[i]? = some x) : ∃ t, qs[i]? = some t ∧ x = .ref t.1 := by
  unfold refs at h
  rw [List.getElem?_map] at h
  cases e : qs[i]? with
  | none => rw [e] at h; cases h
  | some t => rw [e] at h; exact ⟨t, rfl, (Option.some.inj h).symm⟩
theorem refs_snoc {qs : List (Addr × List Int)} {t : Addr × List Int} : refs (qs ++ [t]) = refs qs ++ [.ref t.1] := by
  unfold refs
  rw [List.map_append]
  rfl
def spListed : Sp := fun vs H Q _ => ∃ (a : Addr) (qs : List (Addr × List Int)), vs = [.ref a] ∧ H a = some (.lst (refs qs)) ∧ Parts H qs ∧ qs.length ≤ 300 ∧ (∀ t ∈ qs, t.2.length ≤ 300) ∧
  MkL H Q (listB (qs.map (·.2)))
abbrev CH : Str := PySem.Str.ofString " !\"#$&'()*+,-./0123456789:;<=>?@ABCDEFGHIJKLMNOPQRSTUVWXYZ[\\]^_`abcdefghijklmnopqrstuvwxyz{|}~"
def chIx (c : Nat) : Nat := if c < 37 then c - 32 else c - 33
theorem ch_at0 : ∀ c, c < 127 → 32 ≤ c → c ≠ 37 → (Builtin.Str.occurrences CH ⟨#[c]⟩ 0 CH.length 1).head? = some (chIx c) := by decide +kernel
theorem ch_at {c : Nat} (h : c < 127) (h1 : 32 ≤ c) (h2 : c ≠ 37) : ∃ rest, Builtin.Str.occurrences CH ⟨#[c]⟩ 0 CH.length 1 = chIx c :: rest := by
  have := ch_at0 c h h1 h2
  cases e : Builtin.Str.occurrences CH ⟨#[c]⟩ 0 CH.length 1 with
  | nil => rw [e] at this; cases this
  | cons x r =>
    rw [e] at this
    exact ⟨r, by rw [Option.some.inj this]⟩
theorem ch_val {c : Nat} (h1 : 32 ≤ c) (h2 : c ≠ 37) : (32 : Int) + ((chIx c : Nat) : Int) + (if decide ((4 : Int) < ((chIx c : Nat) : Int)) = true then 1 else 0) = (c : Int) := by
  unfold chIx
  by_cases h : c < 37
  · rw [if_pos h, if_neg (by simp; omega)]
    omega
  · rw [if_neg h, if_pos (by simp; omega)]
    omega
theorem flat1 (xs : List Int) : (xs.map fun x => [x]).flatten = xs := by
  induction xs with
  | nil => rfl
  | cons x xs ih => rw [List.map_cons, List.flatten_cons, ih]; rfl
theorem listed_str (z : Str) : listB ((cpB z).map fun x => [x]) = strB z := by
  unfold listB strB
  rw [flat1, List.length_map, cpB_len]
theorem listed_pre {qs : List (Addr × List Int)} {i : Nat} {t : Addr × List Int} (h : qs[i]? = some t) :
    numB qs.length ++ ((qs.take (i + 1)).map (·.2)).flatten = (numB qs.length ++ ((qs.take i).map (·.2)).flatten) ++ t.2 := by
  rw [take_snoc h, List.map_append, List.flatten_append, List.append_assoc]
  simp
theorem listed_pre_len {qs : List (Addr × List Int)} (h : ∀ t ∈ qs, t.2.length ≤ 300) (l : qs.length ≤ 300) (i : Nat) : (numB qs.length ++ ((qs.take i).map (·.2)).flatten).length ≤ 90021 := by
  have h1 := flat_len (xs := (qs.take i).map (·.2)) (b := 300) fun y m => by
    obtain ⟨x, mx, rfl⟩ := List.mem_map.mp m
    exact h x (List.mem_of_mem_take mx)
  rw [List.length_map, List.length_take] at h1
  have h2 := numB_20 (n := qs.length) (Nat.lt_of_le_of_lt l (by decide))
  rw [List.length_append]
  have h3 : min i qs.length * 300 ≤ 300 * 300 := Nat.mul_le_mul_right _ (by omega)
  omega
section
variable {P : Program} {w : World} {K : PySem.W.Frag} {mg : Str → Option Value} {base : Heap}
end
end K1
namespace K1
open PySem PySem.Spec PyProof.Rows L2 Ow
abbrev sbucket_of_values : Stmt := topS 19
abbrev Nbucket_of_values : List Str := ["values", "buckets", "number", "byte"]
theorem scbucket_of_values : FnScope Nbucket_of_values ["values", "buckets"] (defScope sbucket_of_values) := ⟨rfl, rfl, rfl, by decide +kernel, rfl, by decide +kernel, by decide +kernel⟩
abbrev N_law_bucket : List Str := ["values", "buckets", "number", "byte"]
def spBuck (K : PySem.W.Frag) : Sp := fun vs H Q _ => ∃ (a : Addr) (xs : List V) (b : Int), vs = [.ref a, .int b] ∧ SqT K H a xs ∧ (∀ x ∈ xs, Scal x) ∧ xs.length ≤ 10 ∧ 0 < b ∧
  ∀ H', Same H H' → Q (.int (buk (rowB xs) % b)) H'
theorem take_fold {α β : Type} {xs : List β} {i : Nat} {x : β} (h : xs[i]? = some x) (f : α → β → α) (a : α) : (xs.take (i + 1)).foldl f a = f ((xs.take i).foldl f a) x := by
  rw [take_snoc h, List.foldl_append]
  rfl
theorem ints_get {ns : List Int} {i : Nat} {x : V} (h : (ns.map V.int)[i]? = some x) : ∃ n, ns[i]? = some n ∧ x = .int n := by
  rw [List.getElem?_map] at h
  cases e : ns[i]? with
  | none => rw [e] at h; cases h
  | some t => rw [e] at h; exact ⟨t, rfl, (Option.some.inj h).symm⟩
section
variable {P : Program} {w : World} {K : PySem.W.Frag} {mg : Str → Option Value} {base : Heap}
theorem ok_buck {f : Addr} {fd : FuncData} (F : Fun K "bucket_of_values" "bucket_of_values" sbucket_of_values f fd) (T : Bl mg)
    (Dwrite_row : Kn P w K mg base 4 "write_row" ["row"] (spRB K)) :
    FnOk P w K mg base CX0 5 f fd ["values", "buckets"] (spBuck K) := by
  refine F.ok scbucket_of_values (fun vs H Q E h => ?_) (fun cdv A outer s H vs Q E hr h => ?_)
  · obtain ⟨a, xs, b, rfl, _⟩ := h
    rfl
  · obtain ⟨a, xs, b, rfl, hx, sx, lx, b0, q⟩ := h
    refine ⟨_, (pss_cons (ps_set (i := 2) scbucket_of_values.nd rfl (.inl rfl) pe_int)
      (pss_cons (ps_for PassesOwn.never rfl (pi_list (pe_kn Dwrite_row hr (pa_cons (pv 0) pa_nil))) (pg_name (i := 3) scbucket_of_values.nd rfl (.inl rfl)) (pss_one (ps_set (i := 2) scbucket_of_values.nd rfl (.inl rfl) (pe_op op_mod (pe_op op_add (pe_op op_add (pe_op op_mul pe_int (pv 2)) (pv 3)) pe_int) (pv 1)))))
      (pss_one (ps_ret (pv 2))))), ?_⟩
    refine ⟨_, rfl, a, xs, rfl, hx, sx, lx, fun H1 o sm no ho => ?_⟩
    refine ⟨o, rfl, ⟨_, SqL.of ho⟩, for_list (K := K) (a := o) (xs := (rowB xs).map V.int) (fun i σ H4 => ∃ y3 : Option V, σ = [some (.ref a), some (.int b), some (.int (((rowB xs).take i).foldl (fun g c => (31 * g + c + 1) % b) 0)), y3] ∧ Same H1 H4)
      ⟨none, rfl, Same.refl _⟩ (fun i σ H4 hi hP => ?_) (fun i x σ H4 hi hP => ?_) (fun σ H4 hP => ?_)⟩
    · obtain ⟨y3, _, s4⟩ := hP
      exact SqL.of (s4 _ _ ho)
    · obtain ⟨y3, rfl, s4⟩ := hP
      obtain ⟨c, ec, rfl⟩ := ints_get hi
      refine ⟨_, rfl, 31, _, rfl, rfl, .inl ⟨by decide, by decide⟩, _, rfl, _, _, rfl, rfl, _, _, rfl, rfl, _, rfl, _, _, rfl, rfl, b0, ?_⟩
      exact ⟨_, by rw [take_fold ec]; rfl, s4⟩
    · obtain ⟨y3, rfl, s4⟩ := hP
      rw [List.length_map, List.take_length]
      have e := buk_mod b (rowB xs) 0 0 (by rw [Int.zero_emod])
      refine ⟨_, rfl, ?_⟩
      rw [e]
      exact q _ (sm.trans s4)
end
end K1
namespace K1
open PySem PySem.Spec PyProof.Rows L2 Ow
abbrev N_law_pack : List Str := ["rows", "sectors", "current", "count", "row", "code", "k"]
def codes (rs : List (Addr × List V)) : List (List Int) := rs.map fun t => rowB t.2
def PkRes (H : Hp) (x : V) (H' : Hp) : Option (List (List Int)) → Prop
  | none => x = .non
  | some ss => ∃ (p : Addr) (ts : List (Addr × List Int)), x = .ref p ∧ H p = none ∧ H' p = some (.lst (refs ts)) ∧ ts.map (·.2) = ss ∧ Parts H' ts ∧ (∀ t ∈ ts, H t.1 = none ∧ t.1 ≠ p) ∧
      ss.length ≤ 100 ∧ ∀ s ∈ ss, s.length ≤ 100
def spPack (K : PySem.W.Frag) : Sp := fun vs H Q _ => ∃ (a : Addr) (rs : List (Addr × List V)), vs = [.ref a] ∧ SqL K H a (rrefs rs) ∧ RowsOk K H rs ∧ rs.length ≤ 99 ∧
  ∀ x H', Same H H' → PkRes H x H' (packO (codes rs)) → Q x H'
theorem codes_get {rs : List (Addr × List V)} {i : Nat} {t : Addr × List V} (h : rs[i]? = some t) : (codes rs)[i]? = some (rowB t.2) := by
  unfold codes
  rw [List.getElem?_map, h]
  rfl
theorem packO_none {cs : List (List Int)} {c : List Int} (m : c ∈ cs) (h : 63 < c.length) : packO cs = none := by
  unfold packO
  rw [if_neg]
  intro z
  have := List.all_eq_true.mp z c m
  have := of_decide_eq_true this
  omega
theorem packO_some {cs : List (List Int)} (h : ∀ c ∈ cs, c.length ≤ 63) : packO cs = some ((pkAll (pkF cs)).map padS) := by
  unfold packO
  rw [if_pos]
  exact List.all_eq_true.mpr fun c m => decide_eq_true (h c m)
theorem pkF_snoc {cs : List (List Int)} {i : Nat} {c : List Int} (h : cs[i]? = some c) : pkF (cs.take (i + 1)) = pkS (pkF (cs.take i)) c := by
  unfold pkF
  rw [take_fold h]
theorem pkF_ok' {cs : List (List Int)} (h : ∀ c ∈ cs, c.length ≤ 63) : PkOk cs.length (pkF cs) := by
  have := pkF_ok cs 0 pk0 pk0_ok h
  rwa [Nat.zero_add] at this
theorem padS_len {s : List Int} (h : s.length ≤ 64) : (padS s).length = 64 := by
  unfold padS
  rw [List.length_append, List.length_replicate]
  omega
theorem pkAll_len {n : Nat} {p : Pk} (h : PkOk n p) : (pkAll p).length ≤ n ∧ ∀ s ∈ pkAll p, s.length ≤ 64 := by
  have h3 := h.l
  unfold pkAll
  by_cases e : p.cnt > 0
  · rw [if_pos e] at h3 ⊢
    refine ⟨by rw [List.length_append]; exact h3, fun s m => ?_⟩
    rcases List.mem_append.mp m with m | m
    · exact (h.s s m).1
    · rw [List.mem_singleton.mp m, List.length_cons]
      have := h.c
      omega
  · rw [if_neg e] at h3 ⊢
    exact ⟨h3, fun s m => (h.s s m).1⟩
theorem zeros_snoc (n : Nat) : (List.replicate n (0 : Int)).map V.int ++ [V.int 0] = (List.replicate (n + 1) (0 : Int)).map V.int := by
  rw [List.replicate_succ']
  rw [List.map_append]
  rfl
theorem Parts.snoc {H : Hp} {qs : List (Addr × List Int)} {o t : Addr} {c : List Int} (h : Parts H qs) (n : ∀ u ∈ qs, u.1 ≠ o) (to : t ≠ o) (ht : H t = some (.lst (c.map V.int))) (u : HO) : Parts (upd H o u) (qs ++ [(t, c)]) := by
  intro v mv
  rcases List.mem_append.mp mv with m | m
  · rw [upd_ne (n v m)]
    exact h v m
  · rw [List.mem_singleton.mp m, upd_ne to]
    exact ht
theorem all_take {cs : List (List Int)} {i : Nat} {c : List Int} (h : cs[i]? = some c) (a : ∀ x ∈ cs.take i, x.length ≤ 63) (hc : c.length ≤ 63) : ∀ x ∈ cs.take (i + 1), x.length ≤ 63 := by
  rw [take_snoc h]
  intro x m
  rcases List.mem_append.mp m with m | m
  · exact a x m
  · rw [List.mem_singleton.mp m]
    exact hc
section
variable {P : Program} {w : World} {K : PySem.W.Frag} {mg : Str → Option Value} {base : Heap}
end
end K1
namespace K1
open PySem PySem.Spec PyProof.Rows L2 Ow
abbrev spack : Stmt := topS 17
abbrev Npack : List Str := ["rows", "used", "row", "code", "sector"]
theorem scpack : FnScope Npack ["rows"] (defScope spack) := ⟨rfl, rfl, rfl, by decide +kernel, rfl, by decide +kernel, by decide +kernel⟩
structure Sb (mg : Str → Option Value) : Prop where
  ex : ∃ t, mg "SECTOR_BYTES" = some (.int 64 t)
theorem pe_gi {X : Cx} {x : Str} {n : Int} {t : Tok} {pos : Pos} (hg : Gl X x) (hm : X.mg x = some (.int n t)) (hn : x ≠ "__name__" := by decide) (hd : (x == ("__debug__" : Str)) = false := by decide) : PE X (.Name x pos) (tC (.int n)) := pe_glob (v := .int n) hg hm ⟨_, rfl⟩ (hd := hd)
def rLenK (K : PySem.W.Frag) : List V → Hp → VK → Prop := fun xs H Q => ∃ p ys, xs = [V.ref p] ∧ (SqL K H p ys ∨ SqT K H p ys) ∧ Q (.int (ys.length : Nat)) H
theorem call_len_K {X : Cx} {K : PySem.W.Frag} (e : X.K = K) : CallR X (.builtin "len") (rLenK K) := by
  subst e
  exact call_len_seq
theorem ix0 {n : Nat} (h : 0 < n) : ixN n 0 = some 0 := by
  unfold ixN
  simp
  omega
theorem pk_nil {n : Nat} {pk : Pk} {code : List Int} (ok : PkOk n pk) (hc : code.length ≤ 63) (h : pkAll pk = []) : pkAll (pkS pk code) = [1 :: code] := by
  have z : ¬ pk.cnt > 0 := fun z => by
    unfold pkAll at h
    rw [if_pos z] at h
    exact absurd h (by simp)
  have nn := ok.nn
  have z0 : pk.cnt = 0 := by omega
  obtain ⟨e1, e2⟩ := ok.z z0
  unfold pkS
  rw [if_neg (by rw [e2]; simp; omega), e1, e2, z0]
  rfl
theorem pk_last {n : Nat} {pk : Pk} {xs : List (List Int)} {l : List Int} (ok : PkOk n pk) (h : xs ++ [l] = pkAll pk) : xs = pk.S ∧ l = pk.cnt :: pk.cur ∧ pk.cnt > 0 := by
  have nn := ok.nn
  by_cases e : pk.cnt > 0
  · unfold pkAll at h
    rw [if_pos e] at h
    have := List.append_inj' h rfl
    exact ⟨this.1, (List.cons.inj this.2).1, e⟩
  · unfold pkAll at h
    rw [if_neg e] at h
    have z0 : pk.cnt = 0 := by omega
    rw [(ok.z z0).1] at h
    exact absurd h (by simp)
theorem rep_zero (n : Nat) : (List.replicate n [V.int 0]).flatten = (List.replicate n (0 : Int)).map V.int := by
  induction n with
  | zero => rfl
  | succ n ih => rw [List.replicate_succ, List.flatten_cons, ih, List.replicate_succ, List.map_cons]; rfl
theorem map_take_snoc {α β : Type} {xs : List α} {f : α → β} {i : Nat} {x : α} (h : xs[i]? = some x) : (xs.take (i + 1)).map f = (xs.take i).map f ++ [f x] := by
  rw [take_snoc h, List.map_append]
  rfl
section
variable {P : Program} {w : World} {K : PySem.W.Frag} {mg : Str → Option Value} {base : Heap}
theorem ok_pack {f : Addr} {fd : FuncData} (F : Fun K "pack" "pack" spack f fd) (T : Bl mg) (B : Sb mg)
    (Dwrite_row : Kn P w K mg base 4 "write_row" ["row"] (spRB K)) :
    FnOk P w K mg base CX0 5 f fd ["rows"] (spPack K) := by
  obtain ⟨tk, TB⟩ := B.ex
  refine F.ok scpack (fun vs H Q E h => ?_) (fun cdv A outer s H vs Q E hr h => ?_)
  · obtain ⟨a, rs, rfl, _⟩ := h
    rfl
  · obtain ⟨a, rs, rfl, ha, hR, lr, q⟩ := h
    refine ⟨_, (pss_cons (ps_set (i := 1) scpack.nd rfl (.inl rfl) (pe_lst pa_nil))
      (pss_cons (ps_for PassesOwn.never rfl (pi_list (pv 0)) (pg_name (i := 2) scpack.nd rfl (.inl rfl)) (pss_cons (ps_set (i := 3) scpack.nd rfl (.inl rfl) (pe_kn Dwrite_row hr (pa_cons (pv 2) pa_nil)))
      (pss_cons (ps_if (pt_cmpR op_gt (pe_callB call_len_seq (by rfl) T.len PySem.boot_len (pa_cons (pv 3) pa_nil)) (pe_op op_sub (pe_gi (by rfl) TB) pe_int) (nomark _)) (pss_one (ps_ret pe_non)) pss_nil)
      (pss_mid (ps_if (PW.pt (pw_or (pt_not (pt_truth (pv 1) (by intro _; rfl))) (pw_or1 (pt_cmpR op_gt (pe_op op_add (pe_callB call_len_seq (by rfl) T.len PySem.boot_len (pa_cons (pe_ix ix_list (pv 1) (pe_un un_neg pe_int) (fun _ _ => rfl)) pa_nil)) (pe_callB call_len_seq (by rfl) T.len PySem.boot_len (pa_cons (pv 3) pa_nil))) (pe_gi (by rfl) TB) (nomark _))))) (pss_one (ps_expr (pe_bm PySem.F.plainAttrs_list PySem.F.slot_list_append PySem.F.type_list_append mt_append (pv 1) (pa_cons (pe_lst (pa_cons pe_int pa_nil)) pa_nil)))) pss_nil)
      (pss_cons (ps_set (i := 4) scpack.nd rfl (.inl rfl) (pe_ix ix_list (pv 1) (pe_un un_neg pe_int) (fun _ _ => rfl)))
      (pss_cons (ps_augS (pv 4) pe_int pget_list pe_int ip_add set_list)
      (pss_one (ps_expr (pe_bm PySem.F.plainAttrs_list PySem.F.slot_list_extend PySem.F.type_list_extend mt_extend (pv 4) (pa_cons (pv 3) pa_nil))))))))))
      (pss_one (ps_ret (pe_lc (own := [("sector", 4)]) (g := gName 4) rfl scpack.nd (pi_list (pv 1)) (blkOk_by (own := [("sector", 4)]) (N := Npack) (sc := defScope spack) (by decide +kernel)) (fun _ _ _ _ _ => pg_name (i := 4) scpack.nd rfl (Or.inl rfl)) (fun _ _ _ _ _ => pts_nil) (fun _ _ _ _ _ => (pe_op op_cat (pv 4) (pe_op op_rep (pe_lst (pa_cons pe_int pa_nil)) (pe_op op_sub (pe_gi (by rfl) TB) (pe_callB (call_len_K (K := K) rfl) (by rfl) T.len PySem.boot_len (pa_cons (pv 4) pa_nil))))))))))), ?_⟩
    refine ⟨sz 0, fun o no => ?_⟩
    have lc : (codes rs).length = rs.length := by unfold codes; rw [List.length_map]
    have lrr : (rrefs rs).length = rs.length := by unfold rrefs; rw [List.length_map]
    refine ⟨_, rfl, a, rfl, ⟨_, (Same.new no).seq ha⟩, for_list (K := K) (a := a) (xs := rrefs rs) (fun i σ H4 => ∃ (y2 y3 y4 : Option V) (ts : List (Addr × List Int)),
        σ = [some (.ref a), some (.ref o), y2, y3, y4] ∧ Same H H4 ∧ H4 o = some (.lst (refs ts)) ∧ ts.map (·.2) = pkAll (pkF ((codes rs).take i)) ∧
        Parts H4 ts ∧ (∀ t ∈ ts, H t.1 = none ∧ t.1 ≠ o) ∧ ts.Pairwise (fun x y => x.1 ≠ y.1) ∧ (∀ x ∈ (codes rs).take i, x.length ≤ 63))
      ⟨none, none, none, [], rfl, Same.new no, upd_same, rfl, (fun _ m => nomatch m), (fun _ m => nomatch m), .nil, (fun _ m => nomatch m)⟩ (fun i σ H4 hi hP => ?_) (fun i x σ H4 hi hP => ?_) (fun σ H4 hP => ?_)⟩
    · obtain ⟨y2, y3, y4, ts, _, s4, _⟩ := hP
      exact s4.seq ha
    · obtain ⟨y2, y3, y4, ts, rfl, s4, eo, mt, pt, nt, pw, al⟩ := hP
      obtain ⟨t, et, rfl⟩ := rrefs_get hi
      have mem := List.mem_of_getElem? et
      obtain ⟨ht, st, lt⟩ := hR t mem
      have gc := codes_get et
      have il : i < rs.length := (List.getElem?_eq_some_iff.mp et).1
      refine ⟨_, rfl, t.1, t.2, rfl, Tk.same s4 _ _ ht, st, lt, fun H5 p s5 np hp => ?_⟩
      have lrow := rowB_len st lt
      refine ⟨_, rfl, p, _, rfl, .inl (SqL.of hp), _, _, rfl, rfl, _, _, rfl, rfl, _, rfl, ?_⟩
      rw [List.length_map]
      refine ite2 (fun e => ?_) (fun e => ?_)
      · have e1 : (64 : Int) - 1 < ((rowB t.2).length : Int) := of_decide_eq_true e
        refine q _ _ (s4.trans s5) ?_
        rw [packO_none (List.mem_of_getElem? gc) (by omega)]
        rfl
      have e1 : (rowB t.2).length ≤ 63 := by
        have : ¬ (64 : Int) - 1 < ((rowB t.2).length : Int) := fun z => e (decide_eq_true z)
        omega
      have al2 := all_take gc al e1
      have ok := pkF_ok' al
      have eS := pkF_snoc gc
      have pc := ok.c
      have lall := pkAll_len ok
      rw [List.length_take] at lall
      have eo5 := s5 _ _ eo
      have pt5 := pt.same s5
      have s6 := s4.trans s5
      have npH : H p = none := s4.free np
      have po : p ≠ o := fun z => by rw [z, eo] at np; cases np
      have ltt : ts.length ≤ 99 := by
        have := congrArg List.length mt
        rw [List.length_map] at this
        omega
      generalize hpk : pkF ((codes rs).take i) = pk at *
      refine ⟨fun σ H6 => ∃ (y4 : Option V) (ts : List (Addr × List Int)) (u : Addr) (b : Int) (bs : List Int), σ = [some (.ref a), some (.ref o), some (.ref t.1), some (.ref p), y4] ∧
          Same H H6 ∧ H6 o = some (.lst (refs (ts ++ [(u, b :: bs)]))) ∧ ts.map (·.2) ++ [(b + 1) :: (bs ++ rowB t.2)] = pkAll (pkS pk (rowB t.2)) ∧ Parts H6 (ts ++ [(u, b :: bs)]) ∧
          (∀ t ∈ ts ++ [(u, b :: bs)], H t.1 = none ∧ t.1 ≠ o) ∧ (ts ++ [(u, b :: bs)]).Pairwise (fun x y => x.1 ≠ y.1) ∧ H6 p = some (.lst ((rowB t.2).map V.int)) ∧ p ≠ u ∧ bs.length ≤ 63, ?_, ?_⟩
      · have fresh : ∀ u, H5 u = none → pkAll (pkS pk (rowB t.2)) = ts.map (·.2) ++ [1 :: rowB t.2] →
            ∃ (y4 : Option V) (ts' : List (Addr × List Int)) (u' : Addr) (b : Int) (bs : List Int), [some (V.ref a), some (.ref o), some (.ref t.1), some (.ref p), y4] = [some (.ref a), some (.ref o), some (.ref t.1), some (.ref p), y4] ∧
          Same H (upd (upd H5 u (.lst [.int 0])) o (.lst (refs ts ++ [.ref u]))) ∧ (upd (upd H5 u (.lst [.int 0])) o (.lst (refs ts ++ [.ref u]))) o = some (.lst (refs (ts' ++ [(u', b :: bs)]))) ∧
          ts'.map (·.2) ++ [(b + 1) :: (bs ++ rowB t.2)] = pkAll (pkS pk (rowB t.2)) ∧ Parts (upd (upd H5 u (.lst [.int 0])) o (.lst (refs ts ++ [.ref u]))) (ts' ++ [(u', b :: bs)]) ∧
          (∀ t ∈ ts' ++ [(u', b :: bs)], H t.1 = none ∧ t.1 ≠ o) ∧ (ts' ++ [(u', b :: bs)]).Pairwise (fun x y => x.1 ≠ y.1) ∧ (upd (upd H5 u (.lst [.int 0])) o (.lst (refs ts ++ [.ref u]))) p = some (.lst ((rowB t.2).map V.int)) ∧ p ≠ u' ∧ bs.length ≤ 63 := fun u nu epk => by
          have uo : u ≠ o := fun z => by rw [z, eo5] at nu; cases nu
          have pu : p ≠ u := ne_of_none hp nu
          refine ⟨y4, ts, u, 0, [], rfl, Same.over (s6.trans (Same.new nu)) no, by rw [upd_same, refs_snoc], ?_, ?_, ?_, ?_, ?_, pu, Nat.zero_le _⟩
          · rw [epk]
            rfl
          · exact Parts.snoc (pt5.same (Same.new nu)) (fun v m => (nt v m).2) uo upd_same _
          · intro v mv
            rcases List.mem_append.mp mv with m | m
            · exact nt v m
            · rw [List.mem_singleton.mp m]
              exact ⟨s6.free nu, uo⟩
          · rw [List.pairwise_append]
            refine ⟨pw, List.pairwise_singleton _ _, fun v mv x mx => ?_⟩
            rw [List.mem_singleton.mp mx]
            exact ne_of_none (pt5 v mv) nu
          · rw [upd_ne po, upd_ne pu]
            exact hp
        rcases List.eq_nil_or_concat ts with ets | ⟨t0, last, ets⟩
        · have ealn : pkAll pk = [] := by rw [← mt, ets]; rfl
          refine ⟨_, rfl, false, .inl ⟨_, SqL.of eo5, by rw [ets]; rfl⟩, ?_⟩
          refine iteT ?_
          refine ⟨_, rfl, .inl ⟨rfl, _, .inl (.inl eo5)⟩, sz 1, fun u nu => ⟨o, refs ts, _, rfl, rfl, (Same.new nu) _ _ eo5, by rw [ets]; decide, ?_⟩⟩
          obtain ⟨z4, ts', u', b, bs, _, r⟩ := fresh u nu (by rw [pk_nil ok e1 ealn, ets]; rfl)
          exact ⟨_, ts', u', b, bs, rfl, r⟩
        · have mt' := mt
          rw [ets, List.concat_eq_append, List.map_append] at mt'
          obtain ⟨m1, m2, m3⟩ := pk_last ok mt'
          have m4 : last.2 = pk.cnt :: pk.cur := m2
          have hl5 : H5 last.1 = some (.lst ((pk.cnt :: pk.cur).map V.int)) := by
            rw [← m4]
            exact pt5 last (by rw [ets, List.concat_eq_append]; exact List.mem_append_right _ (List.mem_singleton.mpr rfl))
          have er : refs ts = refs t0 ++ [.ref last.1] := by rw [ets, List.concat_eq_append, refs_snoc]
          have el : ts = t0 ++ [(last.1, pk.cnt :: pk.cur)] := by rw [ets, List.concat_eq_append, ← m4]
          refine ⟨_, rfl, true, .inl ⟨_, SqL.of eo5, by rw [er]; simp⟩, ?_⟩
          refine iteF ?_
          refine ⟨_, rfl, 1, rfl, o, refs ts, -1, .ref last.1, rfl, rfl, SqL.of eo5, by rw [er]; exact atI_last _ _, last.1, _, rfl, .inl (SqL.of hl5), _, rfl, p, _, rfl, .inl (SqL.of hp), _, _, rfl, rfl, _, _, rfl, rfl, _, rfl, ?_⟩
          rw [List.length_map, List.length_map, List.length_cons]
          refine ite2 (fun e2 => ?_) (fun e2 => ?_)
          · have e3 : (64 : Int) < ((pk.cur.length + 1 : Nat) : Int) + ((rowB t.2).length : Int) := of_decide_eq_true e2
            refine ⟨_, rfl, .inl ⟨rfl, _, .inl (.inl eo5)⟩, sz 1, fun u nu => ⟨o, refs ts, _, rfl, rfl, (Same.new nu) _ _ eo5, ?_, ?_⟩⟩
            · unfold refs
              rw [List.length_map]
              exact small ltt (by decide)
            · have eS' : pkS pk (rowB t.2) = ⟨pk.S ++ [pk.cnt :: pk.cur], rowB t.2, 1⟩ := by
                unfold pkS
                rw [if_pos (by omega)]
              obtain ⟨z4, ts', u', b, bs, _, r⟩ := fresh u nu (by rw [eS', mt]; unfold pkAll; rw [if_pos m3]; rfl)
              exact ⟨_, ts', u', b, bs, rfl, r⟩
          · have e3 : ¬ (64 : Int) < ((pk.cur.length + 1 : Nat) : Int) + ((rowB t.2).length : Int) := fun z => e2 (decide_eq_true z)
            have eS' : pkS pk (rowB t.2) = ⟨pk.S, pk.cur ++ rowB t.2, pk.cnt + 1⟩ := by
              unfold pkS
              rw [if_neg (by omega)]
            have pl : p ≠ last.1 := fun z => by
              have := pt last (by rw [ets, List.concat_eq_append]; exact List.mem_append_right _ (List.mem_singleton.mpr rfl))
              rw [← z, np] at this
              cases this
            refine ⟨_, t0, last.1, pk.cnt, pk.cur, rfl, s6, by rw [eo5, el], ?_, by rw [← el]; exact pt5, by rw [← el]; exact nt, by rw [← el]; exact pw, hp, pl, pc⟩
            rw [eS', m1]
            unfold pkAll
            rw [if_pos (show pk.cnt + 1 > 0 by omega)]
      · rintro σ H6 ⟨y4, ts, u, b, bs, rfl, s6, eo6, epk, pt6, nt6, pw6, hp6, pu, lbs⟩
        have hu := pt6 _ (List.mem_append_right _ (List.mem_singleton.mpr rfl))
        have uo := (nt6 _ (List.mem_append_right _ (List.mem_singleton.mpr rfl))).2
        have uH := (nt6 _ (List.mem_append_right _ (List.mem_singleton.mpr rfl))).1
        have hu' : H6 u = some (.lst ((b :: bs).map V.int)) := hu
        rw [List.pairwise_append] at pw6
        have uts : ∀ v ∈ ts, v.1 ≠ u := fun v mv => pw6.2.2 v mv _ (List.mem_singleton.mpr rfl)
        refine ⟨_, rfl, 1, rfl, o, _, -1, .ref u, rfl, rfl, SqL.of eo6, by rw [refs_snoc]; exact atI_last _ _, ?_⟩
        refine ⟨_, rfl, u, (b :: bs).map V.int, 0, .int b, rfl, rfl, SqL.of hu', at_of (j := 0) rfl rfl, b, 1, rfl, rfl, u, (b :: bs).map V.int, 0, 0, rfl, rfl, hu', ix0 (by simp), ?_⟩
        have e7 : (upd H6 u (.lst (((b :: bs).map V.int).set 0 (.int (b + 1))))) u = some (.lst (((b + 1) :: bs).map V.int)) := upd_same
        have p7 : (upd H6 u (.lst (((b :: bs).map V.int).set 0 (.int (b + 1))))) p = some (.lst ((rowB t.2).map V.int)) := by rw [upd_ne pu]; exact hp6
        refine ⟨_, rfl, .inl ⟨rfl, _, .inl (.inl e7)⟩, _, rfl, u, p, _, _, rfl, rfl, e7, p7, ?_, ?_⟩
        · rw [List.length_map, List.length_map]
          exact sz _ (by show bs.length + 1 + _ ≤ 1000; omega)
        · have look : ∀ v : Addr, v ≠ u → (upd (upd H6 u (.lst (((b :: bs).map V.int).set 0 (.int (b + 1))))) u (.lst (((b + 1) :: bs).map V.int ++ (rowB t.2).map V.int))) v = H6 v := fun v nv => by
            rw [upd_ne nv, upd_ne nv]
          refine ⟨some (.ref t.1), some (.ref p), some (.ref u), ts ++ [(u, (b + 1) :: (bs ++ rowB t.2))], rfl, ?_, ?_, ?_, ?_, ?_, ?_, al2⟩
          · intro v x hv
            rw [look v (fun z => by rw [z, uH] at hv; cases hv)]
            exact s6 _ _ hv
          · rw [look o (Ne.symm uo), eo6, refs_snoc, refs_snoc]
          · rw [List.map_append, eS]
            exact epk
          · intro v mv
            rcases List.mem_append.mp mv with m | m
            · rw [look v.1 (uts v m)]
              exact pt6 v (List.mem_append_left _ m)
            · rw [List.mem_singleton.mp m, upd_same, ← List.map_append]
              rfl
          · intro v mv
            rcases List.mem_append.mp mv with m | m
            · exact nt6 v (List.mem_append_left _ m)
            · rw [List.mem_singleton.mp m]
              exact ⟨uH, uo⟩
          · rw [List.pairwise_append]
            refine ⟨pw6.1, List.pairwise_singleton _ _, fun v mv x mx => ?_⟩
            rw [List.mem_singleton.mp mx]
            exact uts v mv
    · obtain ⟨y2, y3, y4, ts, rfl, s4, eo, mt, pt, nt, pw, al⟩ := hP
      have e2 : (codes rs).take (rrefs rs).length = codes rs := by rw [lrr, ← lc, List.take_length]
      rw [e2] at mt al
      have ok := pkF_ok' al
      have lall := pkAll_len ok
      rw [lc] at lall
      have fin := packO_some al
      have lpad : ((pkAll (pkF (codes rs))).map padS).length ≤ 100 ∧ ∀ s ∈ (pkAll (pkF (codes rs))).map padS, s.length ≤ 100 := by
        refine ⟨by rw [List.length_map]; omega, fun s m => ?_⟩
        obtain ⟨x, mx, rfl⟩ := List.mem_map.mp m
        rw [padS_len (lall.2 x mx)]
        decide
      generalize hpk : pkAll (pkF (codes rs)) = ss at *
      have lts : ts.length = ss.length := by rw [← mt, List.length_map]
      refine ⟨_, rfl, o, rfl, ⟨_, SqL.of eo⟩, fun D nD => lc_list (K := K) (a := o) (xs := refs ts) (fun i H8 => ∃ zs : List (Addr × List Int), Same H4 H8 ∧ H8 D = some (.lst (refs zs)) ∧ Parts H8 zs ∧
          (∀ t ∈ zs, H t.1 = none ∧ t.1 ≠ D) ∧ zs.map (·.2) = (ss.take i).map padS ∧ zs.length = i)
        ⟨[], Same.new nD, upd_same, (fun _ m => nomatch m), (fun _ m => nomatch m), rfl, rfl⟩ (fun i H8 hi hP => ?_) (fun i x H8 hi hP => ?_) (fun H8 hP => ?_)⟩
      · obtain ⟨zs, s8, _⟩ := hP
        exact SqL.of (s8 _ _ eo)
      · obtain ⟨zs, s8, eD, pz, nz, mz, lz⟩ := hP
        obtain ⟨t, et, rfl⟩ := refs_get hi
        have mem := List.mem_of_getElem? et
        have es : ss[i]? = some t.2 := by
          rw [← mt, List.getElem?_map, et]
          rfl
        have il : i < ts.length := (List.getElem?_eq_some_iff.mp et).1
        have l64 := lall.2 t.2 (List.mem_of_getElem? es)
        have ht8 := s8 _ _ (pt t mem)
        refine ⟨rfl, ?_⟩
        refine ⟨_, rfl, sz 1, fun u1 nu1 => ⟨_, rfl, t.1, _, rfl, .inl (SqL.of ((Same.new nu1) _ _ ht8)), _, _, rfl, rfl, u1, _, [V.int 0], rfl, rfl, upd_same, ?_, ?_, ?_, fun u2 nu2 => ?_⟩⟩
        · rw [List.length_map]
          omega
        · rw [List.length_map]
          omega
        · rw [List.length_map]
          exact sz _ (by show 1 * _ ≤ 1000; omega)
        have n64 : (64 - ((t.2.map V.int).length : Int)).toNat = 64 - t.2.length := by rw [List.length_map]; omega
        have e3 := upd_same (H := upd H8 u1 (.lst [V.int 0])) (a := u2) (o := .lst (List.replicate (64 - ((t.2.map V.int).length : Int)).toNat [V.int 0]).flatten)
        have s3 := (Same.new (o := .lst [V.int 0]) nu1).trans (Same.new (o := .lst (List.replicate (64 - ((t.2.map V.int).length : Int)).toNat [V.int 0]).flatten) nu2)
        generalize (upd (upd H8 u1 (.lst [V.int 0])) u2 (.lst (List.replicate (64 - ((t.2.map V.int).length : Int)).toNat [V.int 0]).flatten)) = H9 at *
        rw [rep_zero, n64] at e3
        refine ⟨t.1, u2, _, _, rfl, rfl, s3 _ _ ht8, e3, ?_, fun u3 nu3 => ?_⟩
        · rw [List.length_map, List.length_map, List.length_replicate]
          exact sz _ (by omega)
        have s10 := s3.trans (Same.new (o := .lst (t.2.map V.int ++ (List.replicate (64 - t.2.length) (0 : Int)).map V.int)) nu3)
        have eD9 := s10 _ _ eD
        have no3 : u3 ≠ D := fun z => by
          have := s3.free nu3
          rw [z, eD] at this
          cases this
        refine ⟨refs zs, eD9, ?_, zs ++ [(u3, padS t.2)], Same.over (s8.trans s10) nD, by rw [upd_same, refs_snoc], ?_, ?_, ?_, ?_⟩
        · unfold refs
          rw [List.length_map]
          exact small (m := 1000) (by omega) (by decide)
        · refine Parts.snoc (pz.same s10) (fun v m => (nz v m).2) no3 ?_ _
          rw [upd_same, ← List.map_append]
          rfl
        · intro v mv
          rcases List.mem_append.mp mv with m | m
          · exact nz v m
          · rw [List.mem_singleton.mp m]
            exact ⟨(s4.trans s8).free (s3.free nu3), no3⟩
        · rw [List.map_append, mz, map_take_snoc es]
          rfl
        · rw [List.length_append, lz]
          rfl
      · obtain ⟨zs, s8, eD, pz, nz, mz, lz⟩ := hP
        have e3 : ss.take (refs ts).length = ss := by
          unfold refs
          rw [List.length_map, lts, List.take_length]
        rw [e3] at mz
        refine q _ _ (s4.trans s8) ?_
        rw [fin]
        exact ⟨D, zs, rfl, s4.free nD, eD, mz, pz, nz, lpad.1, lpad.2⟩
end
end K1
namespace K1
open PySem PySem.Spec PyProof.Rows L2 Ow Tlz
def zero64 : List Int := List.replicate 64 0
theorem zero64_len : zero64.length = 64 := List.length_replicate
def fillO (cs : List (List Int)) (n : Nat) : Option (List (List Int)) := match packO cs with
  | none => none
  | some ss => if n < ss.length then none else some (ss ++ List.replicate (n - ss.length) zero64)
theorem fillO_len {cs : List (List Int)} {n : Nat} {ss : List (List Int)} (h : fillO cs n = some ss) : ss.length = n := by
  unfold fillO at h
  cases e : packO cs with
  | none => rw [e] at h; cases h
  | some us =>
    rw [e] at h
    have h' : (if n < us.length then none else some (us ++ List.replicate (n - us.length) zero64)) = some ss := h
    split at h'
    · cases h'
    · cases h'
      rw [List.length_append, List.length_replicate]
      omega
/-- a new list of new lists of numbers, or None -/
def ShRes (H : Hp) (x : V) (H' : Hp) : Option (List (List Int)) → Prop
  | none => x = .non
  | some ss => ∃ (p : Addr) (ts : List (Addr × List Int)), x = .ref p ∧ H p = none ∧ H' p = some (.lst (refs ts)) ∧ ts.map (·.2) = ss ∧ Parts H' ts ∧ (∀ t ∈ ts, H t.1 = none ∧ t.1 ≠ p) ∧
      ss.length ≤ 200 ∧ ∀ s ∈ ss, s.length ≤ 100
def spFilled (K : PySem.W.Frag) : Sp := fun vs H Q _ => ∃ (a : Addr) (rs : List (Addr × List V)) (n : Nat), vs = [.ref a, .int (n : Int)] ∧ SqL K H a (rrefs rs) ∧ RowsOk K H rs ∧ rs.length ≤ 99 ∧ n ≤ 50 ∧
  ∀ x H', Same H H' → ShRes H x H' (fillO (codes rs) n) → Q x H'
theorem refs_app (qs rs : List (Addr × List Int)) : refs (qs ++ rs) = refs qs ++ refs rs := by unfold refs; rw [List.map_append]
theorem refs_len (qs : List (Addr × List Int)) : (refs qs).length = qs.length := by unfold refs; rw [List.length_map]
abbrev sfilled : Stmt := topS 18
abbrev Nfilled : List Str := ["rows", "room", "used", "_"]
theorem scfilled : FnScope Nfilled ["rows", "room"] (defScope sfilled) := ⟨rfl, rfl, rfl, by decide +kernel, rfl, by decide +kernel, by decide +kernel⟩
abbrev N_law_filled : List Str := ["rows", "room", "used", "j", "k"]
abbrev scJ2 : Scope := { kind := .function, names := [(".0", .local), ("j", .local), ("range", .globalImplicit)], isGenerator := false, isCoroutine := false, more := [] }
section
variable {P : Program} {w : World} {K : PySem.W.Frag} {mg : Str → Option Value} {base : Heap}
theorem ok_filled {f : Addr} {fd : FuncData} (F : Fun K "filled" "filled" sfilled f fd) (T : Bl mg) (B : Sb mg)
    (Dpack : Kn P w K mg base 5 "pack" ["rows"] (spPack K)) :
    FnOk P w K mg base CX0 6 f fd ["rows", "room"] (spFilled K) := by
  obtain ⟨tB, TB⟩ := B.ex
  refine F.ok scfilled (fun vs H Q E h => ?_) (fun cdv A outer s H vs Q E hr h => ?_)
  · obtain ⟨a, rs, n, rfl, _⟩ := h
    rfl
  · obtain ⟨a, rs, n, rfl, ha, ro, lrs, ln, q⟩ := h
    refine ⟨_, (pss_cons (ps_set (i := 2) scfilled.nd rfl (.inl rfl) (pe_kn Dpack hr (pa_cons (pv 0) pa_nil)))
      (pss_cons (ps_if (PW.pt (pw_or (pt_cmpR op_isN (pv 2) pe_non (nomark _)) (pw_or1 (pt_cmpR op_gt (pe_callB call_len_seq (by rfl) T.len PySem.boot_len (pa_cons (pv 2) pa_nil)) (pv 1) (nomark _))))) (pss_one (ps_ret pe_non)) pss_nil)
      (pss_one (ps_ret (pe_op op_cat (pv 2) (pe_lc (own := [("_", 3)]) (g := gName 3) rfl scfilled.nd (pi_range1 (by rfl) T.range (pa_cons (pe_op op_sub (pv 1) (pe_callB call_len_seq (by rfl) T.len PySem.boot_len (pa_cons (pv 2) pa_nil))) pa_nil)) (blkOk_by (own := [("_", 3)]) (N := Nfilled) (sc := defScope sfilled) (by decide +kernel)) (fun _ _ _ _ _ => pg_name (i := 3) scfilled.nd rfl (Or.inl rfl)) (fun _ _ _ _ _ => pts_nil) (fun _ _ _ _ _ => (pe_op op_rep (pe_lst (pa_cons pe_int pa_nil)) (pe_gi (by rfl) TB))))))))), ?_⟩
    refine ⟨_, rfl, a, rs, rfl, ha, ro, lrs, fun x H1 s1 pr => ?_⟩
    cases ep : packO (codes rs) with
    | none =>
      rw [ep] at pr
      have ex : x = .non := pr
      subst ex
      refine ⟨_, rfl, rfl, _, rfl, ?_⟩
      refine ite2 (fun _ => ?_) (fun e => absurd (decide_eq_true rfl) e)
      refine q _ _ s1 ?_
      unfold fillO
      rw [ep]
      exact rfl
    | some ss =>
      rw [ep] at pr
      obtain ⟨p, ts, rfl, np, epp, es, pt, fr, lss, lps⟩ := pr
      have lts : ts.length = ss.length := by rw [← es, List.length_map]
      refine ⟨_, rfl, rfl, _, rfl, ?_⟩
      refine ite2 (fun e => absurd (of_decide_eq_true e) (fun z => by cases z)) (fun _ => ?_)
      refine ⟨_, rfl, p, _, rfl, .inl (SqL.of epp), _, rfl, _, _, rfl, rfl, _, rfl, ?_⟩
      rw [refs_len, lts]
      refine ite2 (fun e => ?_) (fun e => ?_)
      · have e' : (ss.length : Int) > (n : Int) := of_decide_eq_true e
        refine q _ _ s1 ?_
        unfold fillO
        rw [ep]
        show ShRes H _ H1 (if n < ss.length then none else _)
        rw [if_pos (by omega)]
        exact rfl
      · have e' : ¬ (ss.length : Int) > (n : Int) := fun z => e (decide_eq_true z)
        refine ⟨_, rfl, _, rfl, _, rfl, p, _, rfl, .inl (SqL.of epp), _, _, rfl, rfl, (n : Int) - (ts.length : Int), by rw [refs_len], by omega, by omega, fun D nD => lc_range (lo := 0) (n := ((n : Int) - (ts.length : Int)).toNat) (fun j H4 => ∃ zs : List (Addr × List Int), Same H1 H4 ∧ H4 D = some (.lst (refs zs)) ∧ zs.map (·.2) = List.replicate j zero64 ∧ Parts H4 zs ∧
            ∀ t ∈ zs, H1 t.1 = none ∧ t.1 ≠ D)
          ⟨[], Same.new nD, upd_same, rfl, (fun _ m => nomatch m), fun _ m => nomatch m⟩ (fun j H4 hj hP => ?_) (fun H4 hP => ?_)⟩
        · obtain ⟨zs, s4, eD, ez, pz, fz⟩ := hP
          have lz : zs.length = j := by
            have := congrArg List.length ez
            rw [List.length_map, List.length_replicate] at this
            exact this
          refine ⟨rfl, ?_⟩
          refine ⟨sz 1, fun u nu => ⟨u, 64, _, rfl, rfl, upd_same, by decide, by decide, by decide, fun v nv => ?_⟩⟩
          have s5 := Same.new (o := .lst [V.int 0]) nu
          have eD5 := s5 _ _ eD
          have ev : (List.replicate (64 : Int).toNat [V.int 0]).flatten = zero64.map V.int := rep_zero 64
          rw [ev]
          generalize (upd H4 u (.lst [V.int 0])) = H5 at *
          have vD : v ≠ D := fun z => by rw [z, eD5] at nv; cases nv
          have eD6 : (upd H5 v (.lst (zero64.map V.int))) D = some (.lst (refs zs)) := by rw [upd_ne vD.symm]; exact eD5
          refine ⟨refs zs, eD6, by rw [refs_len]; exact small (m := 1000) (by omega) (by decide), zs ++ [(v, zero64)], Same.over ((s4.trans s5).trans (Same.new nv)) nD, by rw [upd_same, refs_app]; rfl, by rw [List.map_append, ez, List.replicate_succ']; rfl, ?_, fun t m => ?_⟩
          · exact Parts.snoc (pz.same (s5.trans (Same.new nv))) (fun u m => (fz u m).2) vD upd_same _
          · rcases List.mem_append.mp m with m | m
            · exact fz t m
            · rw [List.mem_singleton.mp m]
              exact ⟨(s4.trans s5).free nv, vD⟩
        · obtain ⟨zs, s4, eD, ez, pz, fz⟩ := hP
          have lz : zs.length = ((n : Int) - (ts.length : Int)).toNat := by
            have := congrArg List.length ez
            rw [List.length_map, List.length_replicate] at this
            exact this
          refine ⟨p, D, _, _, rfl, rfl, s4 _ _ epp, eD, by rw [refs_len, refs_len]; exact sz _ (by omega), fun r nr => ?_⟩
          have s6 := s4.trans (Same.new (o := .lst (refs ts ++ refs zs)) nr)
          refine q _ _ (s1.trans s6) ?_
          unfold fillO
          rw [ep]
          show ShRes H _ _ (if n < ss.length then none else some (ss ++ List.replicate (n - ss.length) zero64))
          rw [if_neg (by omega)]
          refine ⟨r, ts ++ zs, rfl, (s1.trans s4).free nr, by rw [upd_same, refs_app], ?_, fun t m => ?_, fun t m => ?_, by rw [List.length_append, List.length_replicate]; omega, fun s m => ?_⟩
          · rw [List.map_append, es, ez]
            congr 2
            omega
          · rcases List.mem_append.mp m with m | m
            · exact s6 _ _ (pt t m)
            · exact (Same.new nr) _ _ (pz t m)
          · rcases List.mem_append.mp m with m | m
            · exact ⟨(fr t m).1, fun z => by have := s4 _ _ (pt t m); rw [z, nr] at this; cases this⟩
            · exact ⟨s1.free (fz t m).1, fun z => by have := pz t m; rw [z, nr] at this; cases this⟩
          · rcases List.mem_append.mp m with m | m
            · exact lps s m
            · rw [List.eq_of_mem_replicate m, zero64_len]
              decide
end
end K1
namespace K1
open PySem PySem.Spec PyProof.Rows L2 Ow Tlz
/-! structures: their columns and buckets -/
def colsV (w : List Str) : List V := w.map V.str
theorem colsV_len (w : List Str) : (colsV w).length = w.length := List.length_map _
theorem colsV_strs (w : List Str) : ∀ x ∈ colsV w, ∃ z, x = V.str z ∧ True := fun x m => by
  obtain ⟨z, _, rfl⟩ := List.mem_map.mp m
  exact ⟨z, rfl, trivial⟩
def colsS (w : List Str) : List Str := w
theorem colsV_S (w : List Str) : colsV w = (colsS w).map V.str := rfl
def cix (w : List Str) (x : V) : Nat := (colsV w).findIdx fun y => decide (y = x)
theorem cix_lt {w : List Str} {x : V} (h : x ∈ colsV w) : cix w x < (colsV w).length := List.findIdx_lt_length_of_exists ⟨x, h, decide_eq_true rfl⟩
theorem cix_at {w : List Str} {x : V} (h : x ∈ colsV w) : (colsV w)[cix w x]? = some x := by
  have l := cix_lt h
  rw [List.getElem?_eq_getElem l]
  have := List.findIdx_getElem (w := l)
  exact congrArg some (of_decide_eq_true this)
theorem cix_min {w : List Str} {x : V} {m : Nat} (h : m < cix w x) : (colsV w)[m]? ≠ some x := fun e => by
  have := List.not_of_lt_findIdx h
  obtain ⟨p, e⟩ := List.getElem?_eq_some_iff.mp e
  rw [e, decide_eq_true rfl] at this
  cases this
def valsOf (cs : List V) (w : List Str) (row : List V) : List V := cs.map fun x => row.getD (cix w x) .non
def bkt (cs : List V) (w : List Str) (b : Int) (row : List V) : Int := buk (rowB (valsOf cs w row)) % b
structure SInfo (K : PySem.W.Frag) (H : Hp) (R S : Tb) (n rn : Str) (cs : List V) (w : List Str) (b s : Int) : Prop where
  ex : ∃ (q cc q' cr : Addr) (r : Int), valG S n = some (q, [.str rn, .ref cc, .int b, .int s]) ∧ SqT K H cc cs ∧ valG R rn = some (q', [.ref cr, .int r]) ∧ FT H cr (colsV w)
  nn : cs ≠ []
  l : cs.length ≤ 4
  sub : ∀ x ∈ cs, x ∈ colsV w
  w4 : w.length ≤ 4
  b1 : 1 ≤ b
  b2 : b ≤ 16
  s1 : 1 ≤ s
  s2 : s ≤ 8
theorem SInfo.tk {K : PySem.W.Frag} {H H' : Hp} {R S : Tb} {n rn : Str} {cs : List V} {w : List Str} {b s : Int} (t : Tk K H H') (h : SInfo K H R S n rn cs w b s) : SInfo K H' R S n rn cs w b s := by
  obtain ⟨⟨q, cc, q', cr, r, h1, h2, h3, h4⟩, a1, a2, a3, a4, a5, a6, a7, a8⟩ := h
  exact ⟨⟨q, cc, q', cr, r, h1, t _ _ h2, h3, t.x _ _ h4⟩, a1, a2, a3, a4, a5, a6, a7, a8⟩
section
variable {K : PySem.W.Frag} {H : Hp} {R S : Tb} {n rn : Str} {cs : List V} {w : List Str} {b s : Int}
theorem vals_at (h : SInfo K H R S n rn cs w b s) {row : List V} (lr : row.length = w.length) {x : V} (m : x ∈ cs) : ∃ y, row[cix w x]? = some y ∧ y ∈ row ∧ row.getD (cix w x) .non = y := by
  have l0 := cix_lt (h.sub x m)
  rw [colsV_len] at l0
  have l : cix w x < row.length := by rw [lr]; exact l0
  have e := List.getElem?_eq_getElem l
  exact ⟨_, e, List.getElem_mem l, by rw [List.getD_eq_getElem?_getD, e]; rfl⟩
theorem vals_scal (h : SInfo K H R S n rn cs w b s) {row : List V} (lr : row.length = w.length) (sr : ∀ x ∈ row, Scal x) : (∀ x ∈ valsOf cs w row, Scal x) ∧ (valsOf cs w row).length ≤ 10 := by
  refine ⟨fun y m => ?_, by unfold valsOf; rw [List.length_map]; have := h.l; omega⟩
  obtain ⟨x, mx, e⟩ := List.mem_map.mp m
  obtain ⟨z, _, mz, ez⟩ := vals_at h lr mx
  rw [← e, ez]
  exact sr z mz
theorem bkt_lt (h : SInfo K H R S n rn cs w b s) (row : List V) : 0 ≤ bkt cs w b row ∧ bkt cs w b row < b := by
  have := h.b1
  exact ⟨Int.emod_nonneg _ (by omega), Int.emod_lt_of_pos _ (by omega)⟩
end
/-- what is read of a State -/
structure StV (K : PySem.W.Frag) (C : Addr) (H : Hp) (x : Addr) (R : Tb) (F : Fb) (S : Tb) : Prop where
  ex : ∃ (dx dr df ds dl : Addr), H x = some (.ins C dx (flds (.ref dr) (.ref df) (.ref ds) (.ref dl))) ∧ H dr = some (.dK (kvR R)) ∧ H df = some (.dK (kvF F)) ∧ H ds = some (.dK (kvR S))
  rt : ∀ n q c, valG R n = some (q, c) → SqT K H q c
  ft : ∀ n q rs, valG F n = some (q, rs) → H q = some (.lst (rrefs rs)) ∧ RowsOk K H rs
  st : ∀ n q c, valG S n = some (q, c) → SqT K H q c
theorem StV.same {K : PySem.W.Frag} {C : Addr} {H H' : Hp} {x : Addr} {R S : Tb} {F : Fb} (h : StV K C H x R F S) (s : Same H H') : StV K C H' x R F S := by
  obtain ⟨⟨dx, dr, df, ds, dl, h1, h2, h3, h4⟩, rt, ft, st⟩ := h
  exact ⟨⟨dx, dr, df, ds, dl, s _ _ h1, s _ _ h2, s _ _ h3, s _ _ h4⟩, fun n q c e => Tk.same s _ _ (rt n q c e), fun n q rs e => ⟨s _ _ (ft n q rs e).1, (ft n q rs e).2.same s⟩, fun n q c e => Tk.same s _ _ (st n q c e)⟩
theorem StAt.v {K : PySem.W.Frag} {C x dr df ds dl : Addr} {Z : Addr → Prop} {H : Hp} {R S : Tb} {F : Fb} {L : List (Str × V)} {b : Nat} (h : StAt K C Z H x dr df ds dl R F S L b) : StV K C H x R F S := by
  obtain ⟨dx, ob⟩ := h.ob
  exact ⟨⟨dx, dr, df, ds, dl, ob, h.r, h.f, h.s⟩, fun n q c e => h.rt _ (valG_mem e), fun n q rs e => ⟨(h.ft _ (valG_mem e)).1, (h.ft _ (valG_mem e)).2.1⟩, fun n q c e => h.st _ (valG_mem e)⟩
def spColPl (K : PySem.W.Frag) (C : Addr) : Sp := fun vs H Q _ => ∃ (x : Addr) (n rn : Str) (R S : Tb) (F : Fb) (cs : List V) (w : List Str) (b s : Int), vs = [.ref x, .str n] ∧ StV K C H x R F S ∧ SInfo K H R S n rn cs w b s ∧ MkL H Q (cs.map fun x => ((cix w x : Nat) : Int))
def spBucket (K : PySem.W.Frag) (C : Addr) : Sp := fun vs H Q _ => ∃ (x r : Addr) (n rn : Str) (R S : Tb) (F : Fb) (cs : List V) (w : List Str) (b s : Int) (row : List V), vs = [.ref x, .str n, .ref r] ∧ StV K C H x R F S ∧ SInfo K H R S n rn cs w b s ∧
  SqT K H r row ∧ (∀ v ∈ row, Scal v) ∧ row.length = w.length ∧ ∀ H', Same H H' → Q (.int (bkt cs w b row)) H'
abbrev scolumn_places : Stmt := topS 20
abbrev Ncolumn_places : List Str := ["state", "structure", "relation", "columns", "names", "column"]
theorem sccolumn_places : FnScope Ncolumn_places ["state", "structure"] (defScope scolumn_places) := ⟨rfl, rfl, rfl, by decide +kernel, rfl, by decide +kernel, by decide +kernel⟩
abbrev sbucket : Stmt := topS 21
abbrev Nbucket : List Str := ["state", "structure", "row", "values", "at"]
theorem scbucket : FnScope Nbucket ["state", "structure", "row"] (defScope sbucket) := ⟨rfl, rfl, rfl, by decide +kernel, rfl, by decide +kernel, by decide +kernel⟩
section
variable {P : Program} {w : World} {K : PySem.W.Frag} {mg : Str → Option Value} {base : Heap} {C : Addr}
theorem ok_colpl {f : Addr} {fd : FuncData} (F0 : Fun K "column_places" "column_places" scolumn_places f fd) (X : Txt K mg C) :
    FnOk P w K mg base CX0 1 f fd ["state", "structure"] (spColPl K C) := by
  refine F0.ok sccolumn_places (fun vs H Q E h => ?_) (fun cdv A outer s0 H vs Q E hr h => ?_)
  · obtain ⟨x, n, rn, R, S, F, cs, w, b, s, rfl, _⟩ := h
    rfl
  · obtain ⟨x, n, rn, R, S, F, cs, wd, b, s, rfl, sv, si, q⟩ := h
    have hu := hu_of hr
    refine ⟨_, (pss_cons (ps_set (i := 2) sccolumn_places.nd rfl (.inl rfl) (pe_ix ix_tup (pe_dget hu (pe_fld (pv 0) rfl) (pv 1) (fun _ _ => rfl)) pe_int (fun _ _ => rfl)))
      (pss_cons (ps_set (i := 3) sccolumn_places.nd rfl (.inl rfl) (pe_ix ix_tup (pe_dget hu (pe_fld (pv 0) rfl) (pv 1) (fun _ _ => rfl)) pe_int (fun _ _ => rfl)))
      (pss_cons (ps_set (i := 4) sccolumn_places.nd rfl (.inr rfl) (pe_ix ix_tup (pe_dget hu (pe_fld (pv 0) rfl) (pv 2) (fun _ _ => rfl)) pe_int (fun _ _ => rfl)))
      (pss_one (ps_ret (pe_lc (own := [("column", 5)]) (g := gName 5) rfl sccolumn_places.nd (pi_tup (pv 3)) (blkOk_by (own := [("column", 5)]) (N := Ncolumn_places) (sc := defScope scolumn_places) (by decide +kernel)) (fun _ _ _ _ _ => pg_name (i := 5) sccolumn_places.nd rfl (Or.inl rfl)) (fun _ _ _ _ _ => pts_nil) (fun _ _ _ _ _ => (pe_bmT PySem.F.plainAttrs_tuple PySem.F.slot_tuple_index PySem.F.type_tuple_index (mt_tup_ix_K (K := K) rfl) (pv 4) (pa_cons (pv 5) pa_nil))))))))), ?_⟩
    obtain ⟨⟨dx, dr, df, ds, dl, ob, hr', hf, hs⟩, rt, ft, st⟩ := sv
    obtain ⟨qa, cc, qb, cr, r, e1, hcc, e2, hcr⟩ := si.ex
    have ht := st _ _ _ e1
    have ht2 := rt _ _ _ e2
    refine ⟨_, rfl, x, C, dx, _, _, rfl, ob, X.cl, X.nS, flds_s _ _ _ _, _, rfl, ds, _, rfl, dget_n (.inl hs) e1, qa, _, 0, .str rn, rfl, rfl, ht, at_of (j := 0) rfl rfl, ?_⟩
    refine ⟨_, rfl, x, C, dx, _, _, rfl, ob, X.cl, X.nS, flds_s _ _ _ _, _, rfl, ds, _, rfl, dget_n (.inl hs) e1, qa, _, 1, .ref cc, rfl, rfl, ht, at_of (j := 1) rfl rfl, ?_⟩
    refine ⟨_, rfl, x, C, dx, _, _, rfl, ob, X.cl, X.nR, flds_r _ _ _ _, _, rfl, dr, _, rfl, dget_n (.inl hr') e2, qb, _, 0, .ref cr, rfl, rfl, ht2, at_of (j := 0) rfl rfl, ?_⟩
    refine ⟨_, rfl, cc, rfl, ⟨_, hcc⟩, fun D nD => lc_tup (K := K) (a := cc) (xs := cs) (fun i H4 => Same H H4 ∧ H4 D = some (.lst (((cs.take i).map fun x => ((cix wd x : Nat) : Int)).map V.int)))
      ⟨Same.new nD, upd_same⟩ (fun i H4 _ hP => Tk.same hP.1 _ _ hcc) (fun i y H4 hy hP => ?_) (fun H4 hP => ?_)⟩
    · obtain ⟨s4, eD⟩ := hP
      have my := List.mem_of_getElem? hy
      have il : i < cs.length := (List.getElem?_eq_some_iff.mp hy).1
      have msub := si.sub y my
      obtain ⟨z, rfl, _⟩ := colsV_strs wd y msub
      have lcs := si.l
      refine ⟨rfl, ?_⟩
      refine ⟨_, rfl, ⟨cr, _, rfl, (Tk.same (K := K) s4).x _ _ hcr⟩, _, rfl, cr, colsS wd, z, cix wd (.str z), rfl, rfl, by rw [← colsV_S]; exact Tk.same s4 _ _ hcr.sq, ?_, fun m hm e => ?_, _, eD, ?_, Same.over s4 nD, ?_⟩
      · have := cix_at msub
        rw [colsV_S, List.getElem?_map] at this
        cases c : (colsS wd)[cix wd (V.str z)]? with
        | none => rw [c] at this; cases this
        | some u => rw [c] at this; rw [V.str.inj (Option.some.inj this)]
      · refine cix_min hm ?_
        rw [colsV_S, List.getElem?_map, e]
        rfl
      · rw [List.length_map, List.length_map, List.length_take]
        exact small (m := 1000) (by omega) (by decide)
      · rw [upd_same, take_snoc' hy, List.map_append, List.map_append]
        rfl
    · obtain ⟨s4, eD⟩ := hP
      rw [List.take_length] at eD
      exact q _ _ s4 nD eD
theorem ok_bucket {f : Addr} {fd : FuncData} (F0 : Fun K "bucket" "bucket" sbucket f fd) (T : Bl mg) (X : Txt K mg C)
    (Dcolumn_places : Kn P w K mg base 1 "column_places" ["state", "structure"] (spColPl K C))
    (Dbucket_of_values : Kn P w K mg base 5 "bucket_of_values" ["values", "buckets"] (spBuck K)) :
    FnOk P w K mg base CX0 6 f fd ["state", "structure", "row"] (spBucket K C) := by
  refine F0.ok scbucket (fun vs H Q E h => ?_) (fun cdv A outer s0 H vs Q E hr h => ?_)
  · obtain ⟨x, r, n, rn, R, S, F, cs, w, b, s, row, rfl, _⟩ := h
    rfl
  · obtain ⟨x, r, n, rn, R, S, F, cs, wd, b, s, row, rfl, sv, si, hrow, srow, lrow, q⟩ := h
    have hu := hu_of hr
    refine ⟨_, (pss_cons (ps_set (i := 3) scbucket.nd rfl (.inl rfl) (pe_callTy call_tuple_of (by rfl) T.tuple (by decide +kernel) (pa_cons (pe_lc (own := [("at", 4)]) (g := gName 4) rfl scbucket.nd (pi_list (pe_kn Dcolumn_places hr (pa_cons (pv 0) (pa_cons (pv 1) pa_nil)))) (blkOk_by (own := [("at", 4)]) (N := Nbucket) (sc := defScope sbucket) (by decide +kernel)) (fun _ _ _ _ _ => pg_name (i := 4) scbucket.nd rfl (Or.inl rfl)) (fun _ _ _ _ _ => pts_nil) (fun _ _ _ _ _ => (pe_ix (ix_tup_K (K := K) rfl) (pv 2) (pv 4) (fun _ _ => rfl)))) pa_nil)))
      (pss_one (ps_ret (pe_kn Dbucket_of_values hr (pa_cons (pv 3) (pa_cons (pe_ix ix_tup (pe_dget hu (pe_fld (pv 0) rfl) (pv 1) (fun _ _ => rfl)) pe_int (fun _ _ => rfl)) pa_nil)))))), ?_⟩
    refine ⟨_, rfl, _, rfl, x, n, rn, R, S, F, cs, wd, b, s, rfl, sv, si, fun H1 lp s1 nlp elp => ?_⟩
    refine ⟨lp, rfl, ⟨_, SqL.of elp⟩, fun D nD => lc_list (K := K) (a := lp) (xs := (cs.map fun x => ((cix wd x : Nat) : Int)).map V.int) (fun i H4 => Same H1 H4 ∧ H4 D = some (.lst (valsOf (cs.take i) wd row)))
      ⟨Same.new nD, upd_same⟩ (fun i H4 _ hP => SqL.of (hP.1 _ _ elp)) (fun i y H4 hy hP => ?_) (fun H4 hP => ?_)⟩
    · obtain ⟨s4, eD⟩ := hP
      rw [List.getElem?_map, List.getElem?_map] at hy
      cases ec : cs[i]? with
      | none => rw [ec] at hy; cases hy
      | some c =>
        rw [ec] at hy
        have ey : V.int ((cix wd c : Nat) : Int) = y := Option.some.inj hy
        subst ey
        obtain ⟨v, hv, mv, ev⟩ := vals_at si lrow (List.mem_of_getElem? ec)
        have il : i < cs.length := (List.getElem?_eq_some_iff.mp ec).1
        have lcs := si.l
        refine ⟨rfl, ?_⟩
        refine ⟨_, rfl, _, rfl, r, row, _, v, rfl, rfl, Tk.same (s1.trans s4) _ _ hrow, at_of (j := cix wd c) rfl hv, _, eD, ?_, Same.over s4 nD, ?_⟩
        · unfold valsOf
          rw [List.length_map, List.length_take]
          exact small (m := 1000) (by omega) (by decide)
        · rw [upd_same, take_snoc' ec]
          unfold valsOf
          rw [List.map_append]
          show _ = some (HO.lst (_ ++ [row.getD (cix wd c) .non]))
          rw [ev]
    obtain ⟨s4, eD⟩ := hP
    rw [List.length_map, List.length_map, List.take_length] at eD
    refine ⟨D, _, rfl, .inl ⟨SqL.of eD, fun tl ntl => ?_⟩⟩
    have s5 := (s1.trans s4).trans (Same.new (o := .tup (valsOf cs wd row)) ntl)
    have e5 := upd_same (H := H4) (a := tl) (o := .tup (valsOf cs wd row))
    generalize (upd H4 tl (.tup (valsOf cs wd row))) = H5 at *
    obtain ⟨⟨dx, dr, df, ds, dl, ob, hr', hf, hs⟩, rt, ft, st⟩ := sv.same s5
    obtain ⟨qa, cc, qb, cr, r', e1, hcc, e2, hcr⟩ := si.ex
    obtain ⟨sc, lc⟩ := vals_scal si lrow srow
    have := si.b1
    refine ⟨_, rfl, _, rfl, x, C, dx, _, _, rfl, ob, X.cl, X.nS, flds_s _ _ _ _, _, rfl, ds, _, rfl, dget_n (.inl hs) e1, qa, _, 2, .int b, rfl, rfl, st _ _ _ e1, at_of (j := 2) rfl rfl, tl, _, b, rfl, SqT.of e5, sc, lc, by omega, fun H6 s6 => ?_⟩
    exact q _ (s5.trans s6)
end
end K1
namespace K1
open PySem PySem.Spec PyProof.Rows L2 Ow Tlz
abbrev Rw := List (Addr × List V)
def grp (cs : List V) (w : List Str) (b : Int) (rs : Rw) : List Rw := (List.range b.toNat).map fun (k : Nat) => rs.filter fun t => decide (bkt cs w b t.2 = (k : Int))
theorem grp_len (cs : List V) (w : List Str) (b : Int) (rs : Rw) : (grp cs w b rs).length = b.toNat := by unfold grp; rw [List.length_map, List.length_range]
theorem grp_at {cs : List V} {w : List Str} {b : Int} {rs : Rw} {k : Nat} (h : k < b.toNat) : (grp cs w b rs)[k]? = some (rs.filter fun t => decide (bkt cs w b t.2 = (k : Int))) := by
  unfold grp
  rw [List.getElem?_map, List.getElem?_range h]
  rfl
theorem grp_nil (cs : List V) (w : List Str) (b : Int) : grp cs w b [] = List.replicate b.toNat [] := by
  unfold grp
  refine List.ext_getElem? fun k => ?_
  rw [List.getElem?_map, List.getElem?_replicate]
  by_cases h : k < b.toNat
  · rw [List.getElem?_range h, if_pos h]
    rfl
  · rw [List.getElem?_eq_none (by rw [List.length_range]; omega), if_neg h]
    rfl
theorem grp_snoc {cs : List V} {w : List Str} {b : Int} {rs : Rw} {t : Addr × List V} {k : Nat} (e : bkt cs w b t.2 = (k : Int)) (h : k < b.toNat) : grp cs w b (rs ++ [t]) = (grp cs w b rs).set k ((rs.filter fun t => decide (bkt cs w b t.2 = (k : Int))) ++ [t]) := by
  refine List.ext_getElem? fun j => ?_
  rw [List.getElem?_set]
  by_cases hj : k = j
  · subst hj
    rw [if_pos rfl, grp_len, if_pos h, grp_at h, List.filter_append, List.filter_cons, List.filter_nil, if_pos (decide_eq_true e)]
  · rw [if_neg hj]
    by_cases hl : j < b.toNat
    · rw [grp_at hl, grp_at hl, List.filter_append, List.filter_cons, List.filter_nil, if_neg (fun z => hj (by have := of_decide_eq_true z; rw [e] at this; omega)), List.append_nil]
    · rw [List.getElem?_eq_none (by rw [grp_len]; omega), List.getElem?_eq_none (by rw [grp_len]; omega)]
abbrev Bk := List (Addr × Rw)
def brefs (bs : Bk) : List V := bs.map fun t => .ref t.1
theorem brefs_get {bs : Bk} {i : Nat} {x : V} (h : (brefs bs)[i]? = some x) : ∃ t, bs[i]? = some t ∧ x = .ref t.1 := by
  unfold brefs at h
  rw [List.getElem?_map] at h
  cases e : bs[i]? with
  | none => rw [e] at h; cases h
  | some t => rw [e] at h; exact ⟨t, rfl, (Option.some.inj h).symm⟩
theorem brefs_len (bs : Bk) : (brefs bs).length = bs.length := by unfold brefs; rw [List.length_map]
def catO : List (Option (List (List Int))) → Option (List (List Int))
  | [] => some []
  | none :: _ => none
  | some x :: r => (catO r).map (x ++ ·)
theorem catO_none : ∀ {xs : List (Option (List (List Int)))}, none ∈ xs → catO xs = none
  | none :: _, _ => rfl
  | some x :: r, h => by
    rcases List.mem_cons.mp h with e | h
    · cases e
    · show (catO r).map (x ++ ·) = none
      rw [catO_none h]
      rfl
theorem catO_app : ∀ {xs : List (Option (List (List Int)))} {a x : List (List Int)}, catO xs = some a → catO (xs ++ [some x]) = some (a ++ x)
  | [], a, x, h => by
    cases h
    show (catO []).map (x ++ ·) = some ([] ++ x)
    show some (x ++ []) = _
    rw [List.append_nil, List.nil_append]
  | none :: _, a, x, h => by cases h
  | some y :: r, a, x, h => by
    have h' : (catO r).map (y ++ ·) = some a := h
    cases e : catO r with
    | none => rw [e] at h'; cases h'
    | some c =>
      rw [e] at h'
      have h2 : y ++ c = a := Option.some.inj h'
      show (catO (r ++ [some x])).map (y ++ ·) = _
      rw [catO_app e, ← h2]
      show some (y ++ (c ++ x)) = _
      rw [List.append_assoc]
def strO (cs : List V) (w : List Str) (b s : Int) (rs : Rw) : Option (List (List Int)) := catO ((grp cs w b rs).map fun r => fillO (codes r) s.toNat)
def spRBB (K : PySem.W.Frag) (C : Addr) : Sp := fun vs H Q _ => ∃ (x : Addr) (n rn : Str) (R S : Tb) (F : Fb) (cs : List V) (w : List Str) (b s : Int) (qf : Addr) (rs : Rw), vs = [.ref x, .str n] ∧ StV K C H x R F S ∧ SInfo K H R S n rn cs w b s ∧
  valG F rn = some (qf, rs) ∧ rs.length ≤ 90 ∧ (∀ t ∈ rs, t.2.length = w.length) ∧
  ∀ (p : Addr) (bs : Bk) H', Same H H' → H p = none → H' p = some (.lst (brefs bs)) → (∀ t ∈ bs, H' t.1 = some (.lst (rrefs t.2)) ∧ H t.1 = none) → bs.map (·.2) = grp cs w b rs → Q (.ref p) H'
abbrev srows_by_bucket : Stmt := topS 22
abbrev Nrows_by_bucket : List Str := ["state", "structure", "relation", "lists", "row", "_"]
theorem scrows_by_bucket : FnScope Nrows_by_bucket ["state", "structure"] (defScope srows_by_bucket) := ⟨rfl, rfl, rfl, by decide +kernel, rfl, by decide +kernel, by decide +kernel⟩
abbrev srelation_shape : Stmt := topS 23
abbrev Nrelation_shape : List Str := ["state", "name"]
theorem screlation_shape : FnScope Nrelation_shape ["state", "name"] (defScope srelation_shape) := ⟨rfl, rfl, rfl, by decide +kernel, rfl, by decide +kernel, by decide +kernel⟩
abbrev sstructure_shape : Stmt := topS 24
abbrev Nstructure_shape : List Str := ["state", "name", "room", "sectors", "rows", "part"]
theorem scstructure_shape : FnScope Nstructure_shape ["state", "name"] (defScope sstructure_shape) := ⟨rfl, rfl, rfl, by decide +kernel, rfl, by decide +kernel, by decide +kernel⟩
def spRelSh (K : PySem.W.Frag) (C : Addr) : Sp := fun vs H Q _ => ∃ (x : Addr) (n : Str) (R S : Tb) (F : Fb) (q q' c : Addr) (r : Int) (rs : Rw), vs = [.ref x, .str n] ∧ StV K C H x R F S ∧ valG R n = some (q, [.ref c, .int r]) ∧ valG F n = some (q', rs) ∧ 1 ≤ r ∧ r ≤ 40 ∧ rs.length ≤ 90 ∧
  ∀ y H', Same H H' → ShRes H y H' (fillO (codes rs) r.toNat) → Q y H'
def spStrSh (K : PySem.W.Frag) (C : Addr) : Sp := fun vs H Q _ => ∃ (x : Addr) (n rn : Str) (R S : Tb) (F : Fb) (cs : List V) (w : List Str) (b s : Int) (qf : Addr) (rs : Rw), vs = [.ref x, .str n] ∧ StV K C H x R F S ∧ SInfo K H R S n rn cs w b s ∧
  valG F rn = some (qf, rs) ∧ rs.length ≤ 90 ∧ (∀ t ∈ rs, t.2.length = w.length) ∧ ∀ y H', Same H H' → ShRes H y H' (strO cs w b s rs) → Q y H'
section
variable {P : Program} {w : World} {K : PySem.W.Frag} {mg : Str → Option Value} {base : Heap} {C : Addr}
theorem ok_rbb {f : Addr} {fd : FuncData} (F0 : Fun K "rows_by_bucket" "rows_by_bucket" srows_by_bucket f fd) (T : Bl mg) (X : Txt K mg C)
    (Dbucket : Kn P w K mg base 6 "bucket" ["state", "structure", "row"] (spBucket K C)) :
    FnOk P w K mg base CX0 7 f fd ["state", "structure"] (spRBB K C) := by
  refine F0.ok scrows_by_bucket (fun vs H Q E h => ?_) (fun cdv A outer s0 H vs Q E hr h => ?_)
  · obtain ⟨x, n, rn, R, S, F, cs, w, b, s, qf, rs, rfl, _⟩ := h
    rfl
  · obtain ⟨x, n, rn, R, S, F, cs, wd, b, s, qf, rs, rfl, sv, si, ef, lrs, wid, q⟩ := h
    have hu := hu_of hr
    refine ⟨_, (pss_cons (ps_set (i := 2) scrows_by_bucket.nd rfl (.inl rfl) (pe_ix ix_tup (pe_dget hu (pe_fld (pv 0) rfl) (pv 1) (fun _ _ => rfl)) pe_int (fun _ _ => rfl)))
      (pss_cons (ps_setLc (i := 3) (own := [("_", 5)]) (g := gName 5) rfl scrows_by_bucket.nd rfl rfl (sw_true rfl rfl rfl (by decide +kernel)) (pi_range1 (by rfl) T.range (pa_cons (pe_ix ix_tup (pe_dget hu (pe_fld (pv 0) rfl) (pv 1) (fun _ _ => rfl)) pe_int (fun _ _ => rfl)) pa_nil)) (blkOk_by (own := [("_", 5)]) (N := Nrows_by_bucket) (sc := defScope srows_by_bucket) (by decide +kernel)) (fun _ _ _ _ _ => pg_name (i := 5) scrows_by_bucket.nd rfl (Or.inl rfl)) (fun _ _ _ _ _ => pts_nil) (fun _ _ _ _ _ => (pe_lst pa_nil)))
      (pss_cons (ps_for PassesOwn.never rfl (pi_list (pe_dget hu (pe_fld (pv 0) rfl) (pv 2) (fun _ _ => rfl))) (pg_name (i := 4) scrows_by_bucket.nd rfl (.inl rfl)) (pss_one (ps_expr (pe_bm PySem.F.plainAttrs_list PySem.F.slot_list_append PySem.F.type_list_append mt_append (pe_ix ix_list (pv 3) (pe_kn Dbucket hr (pa_cons (pv 0) (pa_cons (pv 1) (pa_cons (pv 4) pa_nil)))) (fun _ _ => rfl)) (pa_cons (pv 4) pa_nil)))))
      (pss_one (ps_ret (pv 3)))))), ?_⟩
    obtain ⟨⟨dx, dr, df, ds, dl, ob, hr', hf, hs⟩, rt, ft, st⟩ := id sv
    obtain ⟨qa, cc, qb, cr, r, e1, hcc, e2, hcr⟩ := si.ex
    have ht := st _ _ _ e1
    have b1 := si.b1
    have b2 := si.b2
    obtain ⟨hqf, ro⟩ := ft _ _ _ ef
    refine ⟨_, rfl, x, C, dx, _, _, rfl, ob, X.cl, X.nS, flds_s _ _ _ _, _, rfl, ds, _, rfl, dget_n (.inl hs) e1, qa, _, 0, .str rn, rfl, rfl, ht, at_of (j := 0) rfl rfl, ?_⟩
    refine ⟨_, rfl, x, C, dx, _, _, rfl, ob, X.cl, X.nS, flds_s _ _ _ _, _, rfl, ds, _, rfl, dget_n (.inl hs) e1, qa, _, 2, .int b, rfl, rfl, ht, at_of (j := 2) rfl rfl, b, rfl, by omega, by omega, fun D nD => lc_range (lo := 0) (n := b.toNat) (fun i H4 => ∃ bs : Bk, Same H H4 ∧ H4 D = some (.lst (brefs bs)) ∧ bs.map (·.2) = List.replicate i [] ∧ (∀ t ∈ bs, H4 t.1 = some (.lst (rrefs t.2)) ∧ H t.1 = none ∧ t.1 ≠ D) ∧ bs.Pairwise fun a b => a.1 ≠ b.1)
      ⟨[], Same.new nD, upd_same, rfl, (fun _ m => nomatch m), .nil⟩ (fun i H4 hi hP => ?_) (fun H4 hP => ?_)⟩
    · obtain ⟨bs, s4, eD, eb, hb, pw⟩ := hP
      have lb : bs.length = i := by
        have := congrArg List.length eb
        rw [List.length_map, List.length_replicate] at this
        exact this
      refine ⟨rfl, ?_⟩
      refine ⟨sz 0, fun u nu => ?_⟩
      have s5 := Same.new (o := .lst []) nu
      have uD : u ≠ D := fun z => by rw [z, eD] at nu; cases nu
      refine ⟨brefs bs, s5 _ _ eD, by rw [brefs_len]; exact small (m := 1000) (by omega) (by decide), bs ++ [(u, [])], Same.over (s4.trans s5) nD, by rw [upd_same]; unfold brefs; rw [List.map_append]; rfl, by rw [List.map_append, eb, List.replicate_succ']; rfl, fun t m => ?_, ?_⟩
      · rcases List.mem_append.mp m with m | m
        · obtain ⟨h1, h2, h3⟩ := hb t m
          exact ⟨by rw [upd_ne h3]; exact s5 _ _ h1, h2, h3⟩
        · rw [List.mem_singleton.mp m]
          exact ⟨by rw [upd_ne uD]; exact upd_same, s4.free nu, uD⟩
      · rw [List.pairwise_append]
        refine ⟨pw, List.pairwise_singleton _ _, fun a ma c mc => ?_⟩
        rw [List.mem_singleton.mp mc]
        exact ne_of_none (hb a ma).1 nu
    obtain ⟨bs0, s4, eD, eb, hb, pw⟩ := hP
    rw [← grp_nil cs wd b] at eb
    refine ⟨_, rfl, x, C, dx, _, _, rfl, s4 _ _ ob, X.cl, X.nF, flds_f _ _ _ _, _, rfl, df, _, rfl, dgetF (.inl (s4 _ _ hf)) ef, qf, rfl, ⟨_, SqL.of (s4 _ _ hqf)⟩, for_list (K := K) (a := qf) (xs := rrefs rs) (fun i σ H5 => ∃ (y4 : Option V) (bs : Bk), σ = [some (.ref x), some (.str n), some (.str rn), some (.ref D), y4, none] ∧ Same H H5 ∧ H5 D = some (.lst (brefs bs)) ∧ bs.map (·.2) = grp cs wd b (rs.take i) ∧
        (∀ t ∈ bs, H5 t.1 = some (.lst (rrefs t.2)) ∧ H t.1 = none ∧ t.1 ≠ D) ∧ bs.Pairwise fun a b => a.1 ≠ b.1)
      ⟨none, bs0, rfl, s4, eD, eb, hb, pw⟩ (fun i σ H5 _ hP => ?_) (fun i y σ H5 hy hP => ?_) (fun σ H5 hP => ?_)⟩
    · obtain ⟨_, _, _, s5, _⟩ := hP
      exact SqL.of (s5 _ _ hqf)
    · obtain ⟨y4, bs, rfl, s5, eD, eb, hb, pw⟩ := hP
      obtain ⟨t, et, rfl⟩ := rrefs_get hy
      have mt := List.mem_of_getElem? et
      have il : i < rs.length := (List.getElem?_eq_some_iff.mp et).1
      obtain ⟨htt, stt, ltt⟩ := ro t mt
      obtain ⟨k0, k1⟩ := bkt_lt si t.2
      refine ⟨_, rfl, _, rfl, _, rfl, _, rfl, x, t.1, n, rn, R, S, F, cs, wd, b, s, t.2, rfl, sv.same s5, si.tk (Tk.same s5), Tk.same s5 _ _ htt, stt, wid t mt, fun H6 s6 => ?_⟩
      obtain ⟨k, ek⟩ : ∃ k : Nat, bkt cs wd b t.2 = (k : Int) := ⟨(bkt cs wd b t.2).toNat, by omega⟩
      have lb : bs.length = b.toNat := by
        have := congrArg List.length eb
        rw [List.length_map, grp_len] at this
        exact this
      have kb : k < b.toNat := by omega
      have kl : k < bs.length := by omega
      have ebk : bs[k]? = some bs[k] := List.getElem?_eq_getElem kl
      have mb := List.getElem_mem kl
      have er : bs[k].2 = (rs.take i).filter fun t => decide (bkt cs wd b t.2 = (k : Int)) := by
        have h1 := grp_at (cs := cs) (w := wd) (rs := rs.take i) kb
        rw [← eb, List.getElem?_map, ebk] at h1
        exact Option.some.inj h1
      obtain ⟨h1, h2, h3⟩ := hb _ mb
      have lfl : bs[k].2.length ≤ 90 := by
        rw [er]
        have := List.length_filter_le (fun t => decide (bkt cs wd b t.2 = (k : Int))) (rs.take i)
        rw [List.length_take] at this
        omega
      rw [ek]
      have eD6 := s6 _ _ eD
      have h16 := s6 _ _ h1
      refine ⟨D, _, _, .ref bs[k].1, rfl, rfl, SqL.of eD6, at_of (j := k) rfl (by unfold brefs; rw [List.getElem?_map, ebk]; rfl), .inl ⟨rfl, _, SqL.of h16⟩, _, rfl, bs[k].1, _, _, rfl, rfl, h16, by rw [rrefs_len]; exact small (m := 1000) (by omega) (by decide), ?_⟩
      refine ⟨some (.ref t.1), bs.set k (bs[k].1, bs[k].2 ++ [t]), rfl, Same.over (s5.trans s6) h2, ?_, ?_, fun u mu => ?_, ?_⟩
      · rw [upd_ne h3.symm, eD6]
        unfold brefs
        rw [List.map_set]
        congr 2
        refine List.ext_getElem? fun j => ?_
        rw [List.getElem?_set]
        by_cases hj : k = j
        · subst hj
          rw [if_pos rfl, List.length_map, if_pos kl, List.getElem?_map, ebk]
          rfl
        · rw [if_neg hj]
      · rw [List.map_set, eb, take_snoc' et, grp_snoc ek kb, ← er]
      · rcases List.mem_or_eq_of_mem_set mu with m | m
        · by_cases z : u.1 = bs[k].1
          · obtain ⟨j, hj, ej⟩ := List.mem_iff_getElem.mp mu
            rw [List.length_set] at hj
            rw [List.getElem_set] at ej
            by_cases hjk : k = j
            · rw [if_pos hjk] at ej
              rw [← ej]
              exact ⟨by rw [upd_same]; show _ = some (HO.lst (rrefs (bs[k].2 ++ [t]))); rw [rrefs_snoc], h2, h3⟩
            · rw [if_neg hjk] at ej
              rw [← ej] at z
              rcases Nat.lt_or_gt_of_ne hjk with c | c
              · exact absurd z.symm (List.pairwise_iff_getElem.mp pw k j kl hj c)
              · exact absurd z (List.pairwise_iff_getElem.mp pw j k hj kl c)
          · obtain ⟨g1, g2, g3⟩ := hb u m
            exact ⟨by rw [upd_ne z]; exact s6 _ _ g1, g2, g3⟩
        · rw [m]
          exact ⟨by rw [upd_same]; show _ = some (HO.lst (rrefs (bs[k].2 ++ [t]))); rw [rrefs_snoc], h2, h3⟩
      · refine List.pairwise_iff_getElem.mpr fun i1 i2 h1' h2' hlt => ?_
        rw [List.length_set] at h1' h2'
        have key : ∀ j (hj : j < (bs.set k (bs[k].1, bs[k].2 ++ [t])).length), ((bs.set k (bs[k].1, bs[k].2 ++ [t]))[j]).1 = (bs[j]'(by rw [List.length_set] at hj; exact hj)).1 := fun j hj => by
          rw [List.getElem_set]
          split
          · rename_i z; subst z; rfl
          · rfl
        rw [key, key]
        exact List.pairwise_iff_getElem.mp pw i1 i2 h1' h2' hlt
    · obtain ⟨y4, bs, rfl, s5, eD, eb, hb, pw⟩ := hP
      rw [rrefs_len, List.take_length] at eb
      exact ⟨_, rfl, q D bs _ s5 nD eD (fun t m => ⟨(hb t m).1, (hb t m).2.1⟩) eb⟩
theorem ok_relsh {f : Addr} {fd : FuncData} (F0 : Fun K "relation_shape" "relation_shape" srelation_shape f fd) (X : Txt K mg C)
    (Dfilled : Kn P w K mg base 6 "filled" ["rows", "room"] (spFilled K)) :
    FnOk P w K mg base CX0 7 f fd ["state", "name"] (spRelSh K C) := by
  refine F0.ok screlation_shape (fun vs H Q E h => ?_) (fun cdv A outer s0 H vs Q E hr h => ?_)
  · obtain ⟨x, n, R, S, F, q, q', c, r, rs, rfl, _⟩ := h
    rfl
  · obtain ⟨x, n, R, S, F, qa, qb, c, r, rs, rfl, sv, eR, eF, r1, r2, lrs, q⟩ := h
    have hu := hu_of hr
    refine ⟨_, (pss_one (ps_ret (pe_kn Dfilled hr (pa_cons (pe_dget hu (pe_fld (pv 0) rfl) (pv 1) (fun _ _ => rfl)) (pa_cons (pe_ix ix_tup (pe_dget hu (pe_fld (pv 0) rfl) (pv 1) (fun _ _ => rfl)) pe_int (fun _ _ => rfl)) pa_nil))))), ?_⟩
    obtain ⟨⟨dx, dr, df, ds, dl, ob, hr', hf, hs⟩, rt, ft, st⟩ := sv
    obtain ⟨hq, ro⟩ := ft _ _ _ eF
    refine ⟨_, rfl, x, C, dx, _, _, rfl, ob, X.cl, X.nF, flds_f _ _ _ _, _, rfl, df, _, rfl, dgetF (.inl hf) eF, ?_⟩
    refine ⟨_, rfl, x, C, dx, _, _, rfl, ob, X.cl, X.nR, flds_r _ _ _ _, _, rfl, dr, _, rfl, dget_n (.inl hr') eR, qa, _, 1, .int r, rfl, rfl, rt _ _ _ eR, at_of (j := 1) rfl rfl, ?_⟩
    exact ⟨qb, rs, r.toNat, by rw [Int.toNat_of_nonneg (by omega)]; rfl, SqL.of hq, ro, by omega, by omega, q⟩
theorem ok_strsh {f : Addr} {fd : FuncData} (F0 : Fun K "structure_shape" "structure_shape" sstructure_shape f fd) (X : Txt K mg C)
    (Drows_by_bucket : Kn P w K mg base 7 "rows_by_bucket" ["state", "structure"] (spRBB K C))
    (Dfilled : Kn P w K mg base 6 "filled" ["rows", "room"] (spFilled K)) :
    FnOk P w K mg base CX0 8 f fd ["state", "name"] (spStrSh K C) := by
  refine F0.ok scstructure_shape (fun vs H Q E h => ?_) (fun cdv A outer s0 H vs Q E hr h => ?_)
  · obtain ⟨x, n, rn, R, S, F, cs, w, b, s, qf, rs, rfl, _⟩ := h
    rfl
  · obtain ⟨x, n, rn, R, S, F, cs, wd, b, s, qf, rs, rfl, sv, si, ef, lrs, wid, q⟩ := h
    have hu := hu_of hr
    refine ⟨_, (pss_cons (ps_set (i := 2) scstructure_shape.nd rfl (.inl rfl) (pe_ix ix_tup (pe_dget hu (pe_fld (pv 0) rfl) (pv 1) (fun _ _ => rfl)) pe_int (fun _ _ => rfl)))
      (pss_cons (ps_set (i := 3) scstructure_shape.nd rfl (.inl rfl) (pe_lst pa_nil))
      (pss_cons (ps_for PassesOwn.never rfl (pi_list (pe_kn Drows_by_bucket hr (pa_cons (pv 0) (pa_cons (pv 1) pa_nil)))) (pg_name (i := 4) scstructure_shape.nd rfl (.inl rfl)) (pss_cons (ps_set (i := 5) scstructure_shape.nd rfl (.inl rfl) (pe_kn Dfilled hr (pa_cons (pv 4) (pa_cons (pv 2) pa_nil))))
      (pss_cons (ps_if (pt_cmpR op_isN (pv 5) pe_non (nomark _)) (pss_one (ps_ret pe_non)) pss_nil)
      (pss_one (ps_expr (pe_bm PySem.F.plainAttrs_list PySem.F.slot_list_extend PySem.F.type_list_extend mt_extend (pv 3) (pa_cons (pv 5) pa_nil)))))))
      (pss_one (ps_ret (pv 3)))))), ?_⟩
    obtain ⟨⟨dx, dr, df, ds, dl, ob, hr', hf, hs⟩, rt, ft, st⟩ := id sv
    obtain ⟨qa, cc, qb, cr, r, e1, hcc, e2, hcr⟩ := si.ex
    have b1 := si.b1
    have b2 := si.b2
    have s1' := si.s1
    have s2' := si.s2
    obtain ⟨hqf, ro⟩ := ft _ _ _ ef
    refine ⟨_, rfl, x, C, dx, _, _, rfl, ob, X.cl, X.nS, flds_s _ _ _ _, _, rfl, ds, _, rfl, dget_n (.inl hs) e1, qa, _, 3, .int s, rfl, rfl, st _ _ _ e1, at_of (j := 3) rfl rfl, ?_⟩
    refine ⟨sz 0, fun D nD => ?_⟩
    have s1 := Same.new (o := .lst []) nD
    have eD := upd_same (H := H) (a := D) (o := .lst [])
    generalize (upd H D (.lst [])) = H1 at *
    refine ⟨_, rfl, _, rfl, x, n, rn, R, S, F, cs, wd, b, s, qf, rs, rfl, sv.same s1, si.tk (Tk.same s1), ef, lrs, wid, fun lp bs H2 s2 nlp elp hb eb => ?_⟩
    have lb : bs.length = b.toNat := by
      have := congrArg List.length eb
      rw [List.length_map, grp_len] at this
      exact this
    have eD2 := s2 _ _ eD
    have lD : lp ≠ D := fun z => by rw [z, eD] at nlp; cases nlp
    have bD : ∀ t ∈ bs, t.1 ≠ D ∨ True := fun t m => .inr trivial
    have s12 := s1.trans s2
    refine ⟨lp, rfl, ⟨_, SqL.of elp⟩, for_list (K := K) (a := lp) (xs := brefs bs) (fun i σ H4 => ∃ (y4 y5 : Option V) (ts : List (Addr × List Int)), σ = [some (.ref x), some (.str n), some (.int s), some (.ref D), y4, y5] ∧ Same H H4 ∧ H4 lp = some (.lst (brefs bs)) ∧ (∀ t ∈ bs, t.1 = D ∨ H4 t.1 = some (.lst (rrefs t.2))) ∧ H4 D = some (.lst (refs ts)) ∧ Parts H4 ts ∧ (∀ t ∈ ts, H t.1 = none ∧ t.1 ≠ D) ∧
        catO (((grp cs wd b rs).take i).map fun r => fillO (codes r) s.toNat) = some (ts.map (·.2)) ∧ ts.length = i * s.toNat ∧ ∀ t ∈ ts, t.2.length ≤ 100)
      ⟨none, none, [], rfl, s12, elp, fun t m => .inr (hb t m).1, eD2, (fun _ m => nomatch m), (fun _ m => nomatch m), rfl, by simp, fun _ m => nomatch m⟩ (fun i σ H4 _ hP => ?_) (fun i y σ H4 hy hP => ?_) (fun σ H4 hP => ?_)⟩
    · obtain ⟨_, _, _, _, _, h, _⟩ := hP
      exact SqL.of h
    · obtain ⟨y4, y5, ts, rfl, s4, el4, hb4, eD4, pt, fr, ec, lt, l1⟩ := hP
      obtain ⟨t, et, rfl⟩ := brefs_get hy
      have mt := List.mem_of_getElem? et
      have il : i < bs.length := (List.getElem?_eq_some_iff.mp et).1
      have eg : (grp cs wd b rs)[i]? = some t.2 := by rw [← eb, List.getElem?_map, et]; rfl
      have et2 : t.2 = rs.filter fun t => decide (bkt cs wd b t.2 = (i : Int)) := by
        rw [grp_at (by omega)] at eg
        exact (Option.some.inj eg).symm
      have tD : t.1 ≠ D := fun z => by
        have h1 := (hb t mt).2
        rw [z, eD] at h1
        cases h1
      have ht := (hb4 t mt).resolve_left tD
      have rok : RowsOk K H4 t.2 := fun u mu => by
        rw [et2] at mu
        exact (ro.same s4) u (List.mem_filter.mp mu).1
      have lt2 : t.2.length ≤ 90 := by
        rw [et2]
        exact Nat.le_trans (List.length_filter_le _ _) lrs
      refine ⟨_, rfl, _, rfl, t.1, t.2, s.toNat, by rw [Int.toNat_of_nonneg (by omega)]; rfl, SqL.of ht, rok, by omega, by omega, fun y H5 s5 pr => ?_⟩
      have ec2 : ((grp cs wd b rs).take (i + 1)).map (fun r => fillO (codes r) s.toNat) = ((grp cs wd b rs).take i).map (fun r => fillO (codes r) s.toNat) ++ [fillO (codes t.2) s.toNat] := by
        rw [take_snoc' eg, List.map_append]
        rfl
      cases ef2 : fillO (codes t.2) s.toNat with
      | none =>
        rw [ef2] at pr
        have ey : y = .non := pr
        subst ey
        refine ⟨_, rfl, rfl, _, rfl, ite2 (fun _ => ?_) (fun e => absurd (decide_eq_true rfl) e)⟩
        refine q _ _ (s4.trans s5) ?_
        have : strO cs wd b s rs = none := catO_none (List.mem_map.mpr ⟨t.2, List.mem_of_getElem? eg, ef2⟩)
        rw [this]
        exact rfl
      | some ss =>
        rw [ef2] at pr
        have lss := fillO_len ef2
        obtain ⟨p, us, rfl, np, ep, es, pu, fu, _, ls100⟩ := pr
        have eD5 := s5 _ _ eD4
        have lus : us.length = s.toNat := by rw [← lss, ← es, List.length_map]
        have pD : p ≠ D := fun z => by rw [z, eD4] at np; cases np
        refine ⟨_, rfl, rfl, _, rfl, ite2 (fun e => absurd (of_decide_eq_true e) (fun z => by cases z)) (fun _ => ?_)⟩
        have li : i * s.toNat ≤ 128 := Nat.le_trans (Nat.mul_le_mul (show i ≤ 16 by omega) (show s.toNat ≤ 8 by omega)) (by decide)
        refine ⟨_, rfl, .inl ⟨rfl, _, SqL.of eD5⟩, _, rfl, D, p, _, _, rfl, rfl, eD5, ep, by rw [refs_len, refs_len]; exact sz _ (by omega), ?_⟩
        refine ⟨_, _, ts ++ us, rfl, Same.over (s4.trans s5) nD, by rw [upd_ne lD]; exact s5 _ _ el4, fun u mu => ?_, by rw [upd_same, refs_app], fun u mu => ?_, fun u mu => ?_, ?_, by rw [List.length_append, lt, lus, Nat.succ_mul], fun u mu => ?_⟩
        · rcases hb4 u mu with h | h
          · exact .inl h
          · by_cases z : u.1 = D
            · exact .inl z
            · exact .inr (by rw [upd_ne z]; exact s5 _ _ h)
        · rcases List.mem_append.mp mu with mu | mu
          · rw [upd_ne (fr u mu).2]; exact s5 _ _ (pt u mu)
          · rw [upd_ne (fun z => by have := pu u mu; have h9 := (fu u mu).1; rw [z, eD4] at h9; cases h9)]; exact pu u mu
        · rcases List.mem_append.mp mu with mu | mu
          · exact fr u mu
          · exact ⟨s4.free (fu u mu).1, fun z => by have h9 := (fu u mu).1; rw [z, eD4] at h9; cases h9⟩
        · rw [ec2, ef2, catO_app ec, List.map_append, es]
        · rcases List.mem_append.mp mu with mu | mu
          · exact l1 u mu
          · exact ls100 _ (by rw [← es]; exact List.mem_map.mpr ⟨u, mu, rfl⟩)
    · obtain ⟨y4, y5, ts, rfl, s4, el4, hb4, eD4, pt, fr, ec, lt, l1⟩ := hP
      rw [brefs_len] at ec lt
      rw [lb, ← grp_len cs wd b rs, List.take_length] at ec
      have li : bs.length * s.toNat ≤ 128 := Nat.le_trans (Nat.mul_le_mul (show bs.length ≤ 16 by omega) (show s.toNat ≤ 8 by omega)) (by decide)
      refine ⟨_, rfl, q _ _ s4 ?_⟩
      have : strO cs wd b s rs = some (ts.map (·.2)) := ec
      rw [this]
      exact ⟨D, ts, rfl, nD, eD4, rfl, pt, fr, by rw [List.length_map]; omega, fun s m => by obtain ⟨u, mu, e⟩ := List.mem_map.mp m; rw [← e]; exact l1 u mu⟩
end
end K1
namespace K1
open PySem PySem.Spec PyProof.Rows L2 Ow Tlz
/-! a state as it is reckoned with -/
structure Wd where
  cols : Str → List Str
  room : Str → Nat
  rows : Str → Rw
  srel : Str → Str
  scs : Str → List V
  sb : Str → Int
  ss : Str → Int
def Short (rs : Rw) : Prop := ∀ t ∈ rs, (rowB t.2).length ≤ 63
structure Wv (K : PySem.W.Frag) (C : Addr) (H : Hp) (x : Addr) (R : Tb) (F : Fb) (S : Tb) (W : Wd) : Prop where
  sv : StV K C H x R F S
  rel : ∀ n q c, valG R n = some (q, c) → (∃ cc, c = [.ref cc, .int (W.room n : Nat)] ∧ FT H cc (colsV (W.cols n))) ∧ (W.cols n).length ≤ 4 ∧ 1 ≤ W.room n ∧ W.room n ≤ 40 ∧ (∃ q', valG F n = some (q', W.rows n)) ∧ (W.rows n).length ≤ 90 ∧ Short (W.rows n) ∧ ∀ t ∈ W.rows n, t.2.length = (W.cols n).length
  str : ∀ n q c, valG S n = some (q, c) → SInfo K H R S n (W.srel n) (W.scs n) (W.cols (W.srel n)) (W.sb n) (W.ss n)
theorem Wv.same {K : PySem.W.Frag} {C : Addr} {H H' : Hp} {x : Addr} {R S : Tb} {F : Fb} {W : Wd} (h : Wv K C H x R F S W) (s : Same H H') : Wv K C H' x R F S W :=
  ⟨h.sv.same s, fun n q c e => by
    obtain ⟨⟨cc, e1, e2⟩, r⟩ := h.rel n q c e
    exact ⟨⟨cc, e1, (Tk.same (K := K) s).x _ _ e2⟩, r⟩, fun n q c e => (h.str n q c e).tk (Tk.same s)⟩
inductive Nm where
  | rel (n : Str)
  | str (n : Str)
  deriving DecidableEq
def nmW : Nm → Str
  | .rel _ => "relation"
  | .str _ => "structure"
def nmN : Nm → Str
  | .rel n => n
  | .str n => n
def NmAt (K : PySem.W.Frag) (H : Hp) (t : Addr) (m : Nm) : Prop := SqT K H t [.str (nmW m), .str (nmN m)]
def NmOk (R S : Tb) : Nm → Prop
  | .rel n => (valG R n).isSome = true
  | .str n => (valG S n).isSome = true
def pkn (rs : Rw) : Nat := (pkAll (pkF (codes rs))).length
def cntN (W : Wd) : Nm → List Int
  | .rel n => [((pkn (W.rows n) : Nat) : Int)]
  | .str n => (grp (W.scs n) (W.cols (W.srel n)) (W.sb n) (W.rows (W.srel n))).map fun rs => ((pkn rs : Nat) : Int)
def roomN (W : Wd) : Nm → Int
  | .rel n => (W.room n : Nat)
  | .str n => W.ss n
abbrev sused_counts : Stmt := topS 26
abbrev Nused_counts : List Str := ["state", "name", "sort", "told", "rows"]
theorem scused_counts : FnScope Nused_counts ["state", "name"] (defScope sused_counts) := ⟨rfl, rfl, rfl, by decide +kernel, rfl, by decide +kernel, by decide +kernel⟩
abbrev sbucket_room : Stmt := topS 27
abbrev Nbucket_room : List Str := ["state", "name", "sort", "told"]
theorem scbucket_room : FnScope Nbucket_room ["state", "name"] (defScope sbucket_room) := ⟨rfl, rfl, rfl, by decide +kernel, rfl, by decide +kernel, by decide +kernel⟩
def spUsed (K : PySem.W.Frag) (C : Addr) : Sp := fun vs H Q _ => ∃ (x t : Addr) (m : Nm) (R S : Tb) (F : Fb) (W : Wd), vs = [.ref x, .ref t] ∧ Wv K C H x R F S W ∧ NmOk R S m ∧ NmAt K H t m ∧ MkL H Q (cntN W m)
def spBRoom (K : PySem.W.Frag) (C : Addr) : Sp := fun vs H Q _ => ∃ (x t : Addr) (m : Nm) (R S : Tb) (F : Fb) (W : Wd), vs = [.ref x, .ref t] ∧ Wv K C H x R F S W ∧ NmOk R S m ∧ NmAt K H t m ∧ Q (.int (roomN W m)) H
theorem nsr : ¬ (("structure" : Str) = "relation") := by decide +kernel
theorem some_val {β : Type} {T : List (Str × β)} {n : Str} (h : (valG T n).isSome = true) : ∃ b, valG T n = some b := Option.isSome_iff_exists.mp h
theorem packO_short {rs : Rw} (h : Short rs) : packO (codes rs) = some ((pkAll (pkF (codes rs))).map padS) := packO_some fun c m => by
  obtain ⟨t, mt, rfl⟩ := List.mem_map.mp m
  exact h t mt
section
variable {P : Program} {w : World} {K : PySem.W.Frag} {mg : Str → Option Value} {base : Heap} {C : Addr}
theorem ok_used {f : Addr} {fd : FuncData} (F0 : Fun K "used_counts" "used_counts" sused_counts f fd) (T0 : Bl mg) (X : Txt K mg C) (Dpack : Kn P w K mg base 5 "pack" ["rows"] (spPack K)) (Drows_by_bucket : Kn P w K mg base 7 "rows_by_bucket" ["state", "structure"] (spRBB K C)) :
    FnOk P w K mg base CX0 8 f fd ["state", "name"] (spUsed K C) := by
  refine F0.ok scused_counts (fun vs H Q E h => ?_) (fun cdv A outer s0 H vs Q E hr h => ?_)
  · obtain ⟨x, t, m, R, S, F, W, rfl, _⟩ := h
    rfl
  · obtain ⟨x, t, m, R, S, F, W, rfl, wv, ok, at_, q⟩ := h
    refine ⟨_, (pss_cons (ps_asg (pv 1) (pg_tup rfl (pgs_cons (pg_name (i := 2) scused_counts.nd rfl (.inl rfl)) (pgs_cons (pg_name (i := 3) scused_counts.nd rfl (.inl rfl)) pgs_nil))))
      (pss_cons (ps_if (pt_cmpR op_eq (pv 2) pe_str (nomark _)) (pss_one (ps_ret (pe_lst (pa_cons (pe_callB call_len_seq (by rfl) T0.len PySem.boot_len (pa_cons (pe_kn Dpack hr (pa_cons (pe_dget (hu_of hr) (pe_fld (pv 0) rfl) (pv 3) (fun _ _ => rfl)) pa_nil)) pa_nil)) pa_nil)))) pss_nil)
      (pss_one (ps_ret (pe_lc (own := [("rows", 4)]) (g := gName 4) (tt := tYes) rfl scused_counts.nd (pi_list (pe_kn Drows_by_bucket hr (pa_cons (pv 0) (pa_cons (pv 3) pa_nil)))) (blkOk_by (own := [("rows", 4)]) (N := Nused_counts) (sc := defScope sused_counts) (by decide +kernel)) (fun _ _ _ _ _ => pg_name (i := 4) scused_counts.nd rfl (Or.inl rfl)) (fun _ _ _ _ _ => pts_nil) (fun _ _ _ _ _ => (pe_callB (call_len_K rfl) (by rfl) T0.len PySem.boot_len (pa_cons (pe_kn Dpack hr (pa_cons (pv 4) pa_nil)) pa_nil)))))))), ?_⟩
    obtain ⟨⟨dx, dr, df, ds, dl, ob, hdr, hdf, hds⟩, rt, ft, st⟩ := id wv.sv
    refine ⟨_, rfl, t, _, rfl, at_, rfl, _, _, rfl, _, _, rfl, rfl, ?_⟩
    refine ⟨_, rfl, rfl, _, rfl, ?_⟩
    cases m with
    | rel n =>
      obtain ⟨⟨qr, c⟩, er⟩ := some_val ok
      obtain ⟨⟨cc, rfl, fc⟩, l4, r1, r40, ⟨qf, ef⟩, lr, sh, wid⟩ := wv.rel _ _ _ er
      obtain ⟨hq, ro⟩ := ft _ _ _ ef
      refine ite2 (fun _ => ?_) (fun e => absurd (decide_eq_true rfl) e)
      refine ⟨_, rfl, x, C, dx, _, _, rfl, ob, X.cl, X.nF, flds_f _ _ _ _, _, rfl, df, _, rfl, dgetF (.inl hdf) ef, ?_⟩
      refine ⟨qf, W.rows n, rfl, SqL.of hq, ro, by omega, fun y H1 s1 res => ?_⟩
      rw [packO_short sh] at res
      obtain ⟨p, ts, rfl, np, ep, et, pt, dt, l1, l2⟩ := res
      refine ⟨p, _, rfl, .inl (SqL.of ep), sz 1, fun u nu => ?_⟩
      have lt : (refs ts).length = pkn (W.rows n) := by
        have := congrArg List.length et
        rw [List.length_map, List.length_map] at this
        rw [refs_len, this]
        rfl
      rw [lt]
      exact q _ u (s1.trans (Same.new nu)) (s1.free nu) upd_same
    | str n =>
      obtain ⟨⟨qs, c⟩, es⟩ := some_val ok
      have si := wv.str _ _ _ es
      obtain ⟨q1, c1, q2, c2, r, e1, _, e2, _⟩ := si.ex
      obtain ⟨_, l4, r1, r40, ⟨qf, ef⟩, lr, sh, wid⟩ := wv.rel _ _ _ e2
      refine ite2 (fun e => absurd (V.str.inj (of_decide_eq_true e)) nsr) (fun _ => ?_)
      refine ⟨_, rfl, _, rfl, x, n, W.srel n, R, S, F, W.scs n, W.cols (W.srel n), W.sb n, W.ss n, qf, W.rows (W.srel n), rfl, wv.sv, si, ef, lr, wid, fun p bs H1 s1 np ep hb eb => ?_⟩
      refine ⟨p, rfl, ⟨_, SqL.of ep⟩, fun D nD => ?_⟩
      have lb : bs.length = (W.sb n).toNat := by
        have := congrArg List.length eb
        rw [List.length_map, grp_len] at this
        exact this
      have b2 := si.b2
      refine lc_it (walk_list (K := K) (a := p) (xs := brefs bs)) (fun j H' => Same H1 H' ∧ H' D = some (.lst ((((bs.take j).map fun t => ((pkn t.2 : Nat) : Int)).map V.int)))) ⟨Same.new nD, upd_same⟩ (fun j H' _ ⟨s', _⟩ => s'.seq (SqL.of ep)) (fun j y H2 H2' hj ⟨s2, eD⟩ yy => ?_) fun H2 ⟨s2, eD⟩ => ?_
      · obtain ⟨rfl, ey⟩ := yy
        obtain ⟨t, et, rfl⟩ := brefs_get ey
        have mt := List.mem_of_getElem? et
        obtain ⟨h1, _⟩ := hb t mt
        have sub : ∀ u ∈ t.2, u ∈ W.rows (W.srel n) := by
          have : t.2 ∈ bs.map (·.2) := List.mem_map.mpr ⟨t, mt, rfl⟩
          rw [eb] at this
          obtain ⟨k, _, e⟩ := List.mem_map.mp this
          intro u mu
          rw [← e] at mu
          exact (List.mem_filter.mp mu).1
        have lt : t.2.length ≤ 90 := by
          have : t.2 ∈ bs.map (·.2) := List.mem_map.mpr ⟨t, mt, rfl⟩
          rw [eb] at this
          obtain ⟨k, _, e⟩ := List.mem_map.mp this
          rw [← e]
          exact Nat.le_trans (List.length_filter_le _ _) lr
        have ro : RowsOk K H1 t.2 := fun u mu => by
          have := ((ft _ _ _ ef).2.same s1) u (sub u mu)
          exact this
        refine ⟨rfl, _, rfl, t.1, t.2, rfl, SqL.of (s2 _ _ h1), ro.same s2, by omega, fun y H3 s3 res => ?_⟩
        rw [packO_short fun u mu => sh u (sub u mu)] at res
        obtain ⟨p', ts, rfl, np', ep', et', pt, dt, l1, l2⟩ := res
        refine ⟨p', _, rfl, .inl (SqL.of ep'), _, s3 _ _ eD, ?_, Same.over (s2.trans s3) nD, ?_⟩
        · rw [List.length_map, List.length_map, List.length_take]
          exact small (m := 1000) (by omega) (by decide)
        · have lt : (refs ts).length = pkn t.2 := by
            have := congrArg List.length et'
            rw [List.length_map, List.length_map] at this
            rw [refs_len, this]
            rfl
          rw [upd_same, take_snoc' et, List.map_append, List.map_append, lt]
          rfl
      · rw [brefs_len, List.take_length] at eD
        refine q _ D (s1.trans s2) (s1.free nD) ?_
        rw [eD]
        show _ = some (HO.lst (((grp (W.scs n) (W.cols (W.srel n)) (W.sb n) (W.rows (W.srel n))).map fun rs => ((pkn rs : Nat) : Int)).map V.int))
        rw [← eb, List.map_map, List.map_map, List.map_map]
        rfl
theorem ok_broom {f : Addr} {fd : FuncData} (F0 : Fun K "bucket_room" "bucket_room" sbucket_room f fd) (X : Txt K mg C) : FnOk P w K mg base CX0 1 f fd ["state", "name"] (spBRoom K C) := by
  refine F0.ok scbucket_room (fun vs H Q E h => ?_) (fun cdv A outer s0 H vs Q E hr h => ?_)
  · obtain ⟨x, t, m, R, S, F, W, rfl, _⟩ := h
    rfl
  · obtain ⟨x, t, m, R, S, F, W, rfl, wv, ok, at_, q⟩ := h
    refine ⟨_, (pss_cons (ps_asg (pv 1) (pg_tup rfl (pgs_cons (pg_name (i := 2) scbucket_room.nd rfl (.inl rfl)) (pgs_cons (pg_name (i := 3) scbucket_room.nd rfl (.inl rfl)) pgs_nil))))
      (pss_cons (ps_if (pt_cmpR op_eq (pv 2) pe_str (nomark _)) (pss_one (ps_ret (pe_ix ix_tup (pe_dget (hu_of hr) (pe_fld (pv 0) rfl) (pv 3) (fun _ _ => rfl)) pe_int (fun _ _ => rfl)))) pss_nil)
      (pss_one (ps_ret (pe_ix ix_tup (pe_dget (hu_of hr) (pe_fld (pv 0) rfl) (pv 3) (fun _ _ => rfl)) pe_int (fun _ _ => rfl)))))), ?_⟩
    obtain ⟨⟨dx, dr, df, ds, dl, ob, hdr, hdf, hds⟩, rt, ft, st⟩ := id wv.sv
    refine ⟨_, rfl, t, _, rfl, at_, rfl, _, _, rfl, _, _, rfl, rfl, ?_⟩
    refine ⟨_, rfl, rfl, _, rfl, ?_⟩
    cases m with
    | rel n =>
      obtain ⟨⟨qr, c⟩, er⟩ := some_val ok
      obtain ⟨⟨cc, rfl, fc⟩, _⟩ := wv.rel _ _ _ er
      refine ite2 (fun _ => ?_) (fun e => absurd (decide_eq_true rfl) e)
      exact ⟨_, rfl, x, C, dx, _, _, rfl, ob, X.cl, X.nR, flds_r _ _ _ _, _, rfl, dr, _, rfl, dget_n (.inl hdr) er, qr, _, 1, .int (W.room n : Nat), rfl, rfl, rt _ _ _ er, at_of (j := 1) rfl rfl, q⟩
    | str n =>
      obtain ⟨⟨qs, c⟩, es⟩ := some_val ok
      have si := wv.str _ _ _ es
      obtain ⟨q1, c1, q2, c2, r, e1, _, e2, _⟩ := si.ex
      refine ite2 (fun e => absurd (V.str.inj (of_decide_eq_true e)) nsr) (fun _ => ?_)
      exact ⟨_, rfl, x, C, dx, _, _, rfl, ob, X.cl, X.nS, flds_s _ _ _ _, _, rfl, ds, _, rfl, dget_n (.inl hds) e1, q1, _, 3, .int (W.ss n), rfl, rfl, st _ _ _ e1, at_of (j := 3) rfl rfl, q⟩
end
end K1
namespace K1
open PySem PySem.Spec PyProof.Rows L2 Ow Tlz
/-! a Request: its attributes -/
theorem kq_before_after : ¬ (("before" : Str) = "after") := by decide +kernel
theorem kq_before_calls : ¬ (("before" : Str) = "calls") := by decide +kernel
theorem kq_before_used : ¬ (("before" : Str) = "used") := by decide +kernel
theorem kq_before_reads : ¬ (("before" : Str) = "reads") := by decide +kernel
theorem kq_before_changed : ¬ (("before" : Str) = "changed") := by decide +kernel
theorem kq_after_calls : ¬ (("after" : Str) = "calls") := by decide +kernel
theorem kq_after_used : ¬ (("after" : Str) = "used") := by decide +kernel
theorem kq_after_reads : ¬ (("after" : Str) = "reads") := by decide +kernel
theorem kq_after_changed : ¬ (("after" : Str) = "changed") := by decide +kernel
theorem kq_calls_used : ¬ (("calls" : Str) = "used") := by decide +kernel
theorem kq_calls_reads : ¬ (("calls" : Str) = "reads") := by decide +kernel
theorem kq_calls_changed : ¬ (("calls" : Str) = "changed") := by decide +kernel
theorem kq_used_reads : ¬ (("used" : Str) = "reads") := by decide +kernel
theorem kq_used_changed : ¬ (("used" : Str) = "changed") := by decide +kernel
theorem kq_reads_changed : ¬ (("reads" : Str) = "changed") := by decide +kernel
def fldQ (b a c u r g : V) : List (Str × V) := putF "changed" g (putF "reads" r (putF "used" u (putF "calls" c (putF "after" a (putF "before" b [])))))
theorem fldQ_before (b a c u r g : V) : (fldQ b a c u r g).lookup ("before" : Str) = some b := by
  unfold fldQ
  rw [lookup_putF, if_neg kq_before_changed, lookup_putF, if_neg kq_before_reads, lookup_putF, if_neg kq_before_used, lookup_putF, if_neg kq_before_calls, lookup_putF, if_neg kq_before_after, lookup_putF, if_pos rfl]
theorem fldQ_after (b a c u r g : V) : (fldQ b a c u r g).lookup ("after" : Str) = some a := by
  unfold fldQ
  rw [lookup_putF, if_neg kq_after_changed, lookup_putF, if_neg kq_after_reads, lookup_putF, if_neg kq_after_used, lookup_putF, if_neg kq_after_calls, lookup_putF, if_pos rfl]
theorem fldQ_calls (b a c u r g : V) : (fldQ b a c u r g).lookup ("calls" : Str) = some c := by
  unfold fldQ
  rw [lookup_putF, if_neg kq_calls_changed, lookup_putF, if_neg kq_calls_reads, lookup_putF, if_neg kq_calls_used, lookup_putF, if_pos rfl]
theorem fldQ_used (b a c u r g : V) : (fldQ b a c u r g).lookup ("used" : Str) = some u := by
  unfold fldQ
  rw [lookup_putF, if_neg kq_used_changed, lookup_putF, if_neg kq_used_reads, lookup_putF, if_pos rfl]
theorem fldQ_reads (b a c u r g : V) : (fldQ b a c u r g).lookup ("reads" : Str) = some r := by
  unfold fldQ
  rw [lookup_putF, if_neg kq_reads_changed, lookup_putF, if_pos rfl]
theorem fldQ_changed (b a c u r g : V) : (fldQ b a c u r g).lookup ("changed" : Str) = some g := by
  unfold fldQ
  rw [lookup_putF, if_pos rfl]
structure TxtQ (K : PySem.W.Frag) (mg : Str → Option Value) (C : Addr) : Prop where
  cl : Cls K C
  n_before : NoAttr K C "before"
  n_after : NoAttr K C "after"
  n_calls : NoAttr K C "calls"
  n_used : NoAttr K C "used"
  n_reads : NoAttr K C "reads"
  n_changed : NoAttr K C "changed"
  mgC : mg "Request" = some (.ref C)
end K1
namespace K1
open PySem PySem.Spec PyProof.Rows L2 Ow Tlz
/-! the heap but two dicts -/
def Rm (H : Hp) (d e : Addr) : Hp := fun a => if a = d ∨ a = e then none else H a
theorem Rm.le (H : Hp) (d e : Addr) : Same (Rm H d e) H := fun a o h => by
  unfold Rm at h
  split at h
  · cases h
  · exact h
theorem Rm.mono {H H' : Hp} {d e : Addr} (s : Same H H') : Same (Rm H d e) (Rm H' d e) := fun a o h => by
  unfold Rm at h ⊢
  split at h
  · cases h
  · rename_i z
    rw [if_neg z]
    exact s a o h
theorem Rm.put {H : Hp} {d e a : Addr} {o : HO} (h : a = d ∨ a = e) : Rm (upd H a o) d e = Rm H d e := funext fun b => by
  unfold Rm
  by_cases z : b = d ∨ b = e
  · rw [if_pos z, if_pos z]
  · rw [if_neg z, if_neg z, upd_ne fun y => z (by rw [y]; exact h)]
/-! the heap but the things that are objects -/
def Rx (H : Hp) : Hp := fun a => match H a with
  | some (.ext _) => none
  | o => o
theorem Rx.le (H : Hp) : Same (Rx H) H := fun a o h => by
  unfold Rx at h
  split at h
  · cases h
  · exact h
theorem Rx.of {H : Hp} {a : Addr} {u : HO} (h : H a = some u) (n : ∀ f, u ≠ .ext f) : Rx H a = some u := by
  unfold Rx
  rw [h]
  split
  · rename_i f e
    exact absurd (Option.some.inj e) (n f)
  · rfl
theorem Rx.not {H : Hp} {a : Addr} {u : HO} (h : Rx H a = some u) (f : Heap → Prop) : u ≠ .ext f := by
  unfold Rx at h
  split at h
  · cases h
  · rename_i n
    intro z
    rw [z] at h
    exact n f h
theorem Rx.mono {H H' : Hp} (s : Same H H') : Same (Rx H) (Rx H') := fun a o h => Rx.of (s a o (Rx.le H a o h)) (Rx.not h)
theorem Rx.put {H : Hp} {a : Addr} {f : Heap → Prop} (h : H a = none ∨ ∃ g, H a = some (.ext g)) : Rx (upd H a (.ext f)) = Rx H := funext fun b => by
  by_cases z : b = a
  · subst z
    unfold Rx
    rw [upd_same]
    rcases h with h | ⟨g, h⟩ <;> rw [h]
  · unfold Rx
    rw [upd_ne z]
theorem Rx.sqt {K : PySem.W.Frag} {H : Hp} {a : Addr} {xs : List V} (h : SqT K H a xs) : SqT K (Rx H) a xs := by
  rcases h with (h | ⟨o, h⟩) | h
  · exact .inl (.inl (Rx.of h fun f z => nomatch z))
  · exact .inl (.inr ⟨o, Rx.of h fun f z => nomatch z⟩)
  · exact .inr h
theorem Rx.sql {K : PySem.W.Frag} {H : Hp} {a : Addr} {xs : List V} (h : SqL K H a xs) : SqL K (Rx H) a xs := by
  rcases h with (h | ⟨o, h⟩) | h
  · exact .inl (.inl (Rx.of h fun f z => nomatch z))
  · exact .inl (.inr ⟨o, Rx.of h fun f z => nomatch z⟩)
  · exact .inr h
/-- all but two dicts stays: so does all that is no object -/
theorem Rm.rx {H H' : Hp} {d e : Addr} {f g : Heap → Prop} (s : Same (Rm H d e) (Rm H' d e)) (hd : H d = some (.ext f)) (he : H e = some (.ext g)) : Same (Rx H) (Rx H') := fun a o h => by
  have h1 := Rx.le H a o h
  have n := Rx.not h
  have h2 : Rm H d e a = some o := by
    unfold Rm
    rw [if_neg ?_]
    · exact h1
    · rintro (rfl | rfl)
      · rw [hd] at h1
        exact n f (Option.some.inj h1).symm
      · rw [he] at h1
        exact n g (Option.some.inj h1).symm
  exact Rx.of (Rm.le _ _ _ _ _ (s _ _ h2)) n
/-! keys -/
def mkey (m : Nm) : NestedKey := .tup [.text (nmW m), .text (nmN m)]
theorem mkey_inj {a b : Nm} (h : mkey a = mkey b) : a = b := by
  unfold mkey at h
  injection h with h
  injection h with h1 h2
  injection h1 with h1
  injection h2 with h2 _
  injection h2 with h2
  cases a <;> cases b
  · exact congrArg Nm.rel h2
  · exact absurd h1.symm nsr
  · exact absurd h1 nsr
  · exact congrArg Nm.str h2
theorem NmAt.nka {K : PySem.W.Frag} {H : Hp} {t : Addr} {m : Nm} (h : NmAt K H t m) : NkA K H t (mkey m) :=
  ⟨.tup h (.cons (.str _) (.cons (.str _) .nil)), by unfold mkey; simp [NestedKey.depth, NestedKey.depthAll]⟩
theorem NmAt.same {K : PySem.W.Frag} {H H' : Hp} {t : Addr} {m : Nm} (h : NmAt K H t m) (s : Same H H') : NmAt K H' t m := sqt_same s h
/-- a sector -/
abbrev Sct := Nm × Int
def SecAt (K : PySem.W.Frag) (H : Hp) (a : Addr) (b : Sct) : Prop := ∃ t, SqT K H a [.ref t, .int b.2] ∧ NmAt K H t b.1
theorem SecAt.same {K : PySem.W.Frag} {H H' : Hp} {a : Addr} {b : Sct} (h : SecAt K H a b) (s : Same H H') : SecAt K H' a b := by
  obtain ⟨t, h1, h2⟩ := h
  exact ⟨t, sqt_same s h1, h2.same s⟩
def skey (b : Sct) : NestedKey := .tup [mkey b.1, .num b.2]
theorem skey_inj {a b : Sct} (h : skey a = skey b) : a = b := by
  unfold skey at h
  injection h with h
  injection h with h1 h2
  injection h2 with h2 _
  injection h2 with h2
  exact Prod.ext (mkey_inj h1) h2
theorem SecAt.nka {K : PySem.W.Frag} {H : Hp} {a : Addr} {b : Sct} (h : SecAt K H a b) : NkA K H a (skey b) := by
  obtain ⟨t, h1, h2⟩ := h
  exact ⟨.tup h1 (.cons h2.nka.1 (.cons (.int _) .nil)), by unfold skey mkey; simp [NestedKey.depth, NestedKey.depthAll]⟩
/-- a list of sectors -/
def Sec (K : PySem.W.Frag) (H : Hp) (p : Addr) (bs : List Sct) : Prop := ∃ ts : List (Addr × Sct), SqL K H p (ts.map fun t => V.ref t.1) ∧ ts.map (·.2) = bs ∧ ∀ t ∈ ts, SecAt K H t.1 t.2
theorem Sec.same {K : PySem.W.Frag} {H H' : Hp} {p : Addr} {bs : List Sct} (h : Sec K H p bs) (s : Same H H') : Sec K H' p bs := by
  obtain ⟨ts, h1, h2, h3⟩ := h
  exact ⟨ts, s.seq h1, h2, fun t m => (h3 t m).same s⟩
def bsec (W : Wd) (m : Nm) (k : Nat) : List Sct := (List.range ((cntN W m).getD k 0).toNat).map fun (j : Nat) => (m, (k : Int) * roomN W m + (j : Int))
/-- a call -/
structure Cl where
  r : Str
  p : List V
  deriving DecidableEq
def PatOk (p : List V) : Prop := ∀ v ∈ p, v = .non ∨ Scal v
def CallAt (K : PySem.W.Frag) (H : Hp) (c : Addr) (l : Cl) : Prop := ∃ q, SqT K H c [.str l.r, .ref q] ∧ SqT K H q l.p ∧ PatOk l.p ∧ l.p.length ≤ 10
theorem CallAt.same {K : PySem.W.Frag} {H H' : Hp} {c : Addr} {l : Cl} (h : CallAt K H c l) (s : Same H H') : CallAt K H' c l := by
  obtain ⟨q, h1, h2, h3⟩ := h
  exact ⟨q, sqt_same s h1, sqt_same s h2, h3⟩
def nkV : V → NestedKey
  | .int i => .num i
  | .str z => .text z
  | _ => .none
theorem nkV_d (v : V) : NestedKey.depth (nkV v) = 0 := by cases v <;> rfl
theorem nkV_dep : ∀ p : List V, NestedKey.depthAll (p.map nkV) = 0
  | [] => rfl
  | v :: r => by
    show max (NestedKey.depth (nkV v)) (NestedKey.depthAll (r.map nkV)) = 0
    rw [nkV_d, nkV_dep r]
    rfl
theorem nkV_ok {K : PySem.W.Frag} {H : Hp} : ∀ {p : List V}, PatOk p → NkL K H p (p.map nkV)
  | [], _ => .nil
  | v :: r, h => by
    have h1 := nkV_ok (K := K) (H := H) (p := r) fun u m => h u (List.mem_cons_of_mem _ m)
    refine .cons ?_ h1
    rcases h v List.mem_cons_self with rfl | ⟨i, rfl, _⟩ | ⟨z, rfl, _⟩
    · exact .non
    · exact .int i
    · exact .str z
theorem nkV_one {v u : V} (hv : v = .non ∨ Scal v) (hu : u = .non ∨ Scal u) (h : nkV v = nkV u) : v = u := by
  rcases hv with rfl | ⟨i, rfl, _⟩ | ⟨z, rfl, _⟩ <;> rcases hu with rfl | ⟨j, rfl, _⟩ | ⟨y, rfl, _⟩
  · rfl
  · cases h
  · cases h
  · cases h
  · cases h
    rfl
  · cases h
  · cases h
  · cases h
  · cases h
    rfl
theorem nkV_inj : ∀ {p q : List V}, PatOk p → PatOk q → p.map nkV = q.map nkV → p = q
  | [], [], _, _, _ => rfl
  | [], _ :: _, _, _, h => by cases h
  | _ :: _, [], _, _, h => by cases h
  | v :: r, u :: s, hp, hq, h => by
    rw [List.map_cons, List.map_cons] at h
    injection h with h1 h2
    rw [nkV_inj (fun u m => hp u (List.mem_cons_of_mem _ m)) (fun u m => hq u (List.mem_cons_of_mem _ m)) h2, nkV_one (hp v List.mem_cons_self) (hq u List.mem_cons_self) h1]
def ckey (l : Cl) : NestedKey := .tup [.text l.r, .tup (l.p.map nkV)]
theorem ckey_inj {a b : Cl} (ha : PatOk a.p) (hb : PatOk b.p) (h : ckey a = ckey b) : a = b := by
  unfold ckey at h
  injection h with h
  injection h with h1 h2
  injection h1 with h1
  injection h2 with h2 _
  injection h2 with h2
  have := nkV_inj ha hb h2
  cases a
  cases b
  cases h1
  cases this
  rfl
theorem ckey_depth (l : Cl) : (ckey l).depth ≤ 2 := by
  unfold ckey
  have := nkV_dep l.p
  simp [NestedKey.depth, NestedKey.depthAll, this]
theorem CallAt.nka {K : PySem.W.Frag} {H : Hp} {c : Addr} {l : Cl} (h : CallAt K H c l) : NkA K H c (ckey l) := by
  obtain ⟨q, h1, h2, h3, h4⟩ := h
  exact ⟨.tup h1 (.cons (.str _) (.cons (.tup h2 (nkV_ok h3)) .nil)), Nat.le_trans (ckey_depth l) (by decide)⟩
def rkey (s : Str) (l : Cl) : NestedKey := .tup [.text s, ckey l]
theorem rkey_inj {s t : Str} {a b : Cl} (ha : PatOk a.p) (hb : PatOk b.p) (h : rkey s a = rkey t b) : s = t ∧ a = b := by
  unfold rkey at h
  injection h with h
  injection h with h1 h2
  injection h1 with h1
  injection h2 with h2 _
  exact ⟨h1, ckey_inj ha hb h2⟩
end K1
namespace K1
open PySem PySem.Spec PyProof.Rows L2 Ow Tlz
/-! a Request at x -/
structure UsE (K : PySem.W.Frag) (G : Hp) (W : Wd) (R S : Tb) (e : NE) : Prop where
  ex : ∃ m, NmOk R S m ∧ e.1 = mkey m ∧ NkA K G e.2.1 e.1 ∧ ∃ p, e.2.2 = .ref p ∧ SqL K G p ((cntN W m).map V.int)
theorem UsE.same {K : PySem.W.Frag} {G G' : Hp} {W : Wd} {R S : Tb} {e : NE} (h : UsE K G W R S e) (s : Same G G') : UsE K G' W R S e := by
  obtain ⟨m, h1, h2, h3, p, h4, h5⟩ := h.ex
  exact ⟨m, h1, h2, h3.same (fun a xs => sqt_same s), p, h4, s.seq h5⟩
def stVals (W : Wd) (s : Str) (l : Cl) : List V := valsOf (W.scs s) (W.cols (W.srel s)) l.p
def inS (W : Wd) (s : Str) (l : Cl) : Option (List Sct) :=
  if V.non ∈ stVals W s l then none else some (bsec W (.str s) (bkt (W.scs s) (W.cols (W.srel s)) (W.sb s) l.p).toNat)
def RdV (K : PySem.W.Frag) (G : Hp) (v : V) : Option (List Sct) → Prop
  | none => v = .non
  | some bs => ∃ p, v = .ref p ∧ Sec K G p bs
theorem RdV.same {K : PySem.W.Frag} {G G' : Hp} {v : V} {o : Option (List Sct)} (h : RdV K G v o) (s : Same G G') : RdV K G' v o := by
  cases o with
  | none => exact h
  | some bs =>
    obtain ⟨p, h1, h2⟩ := h
    exact ⟨p, h1, h2.same s⟩
structure RdE (K : PySem.W.Frag) (G : Hp) (W : Wd) (S : Tb) (cs : List Cl) (e : NE) : Prop where
  ex : ∃ s l, (valG S s).isSome = true ∧ l ∈ cs ∧ PatOk l.p ∧ e.1 = rkey s l ∧ NkA K G e.2.1 e.1 ∧ RdV K G e.2.2 (inS W s l)
theorem RdE.same {K : PySem.W.Frag} {G G' : Hp} {W : Wd} {S : Tb} {cs : List Cl} {e : NE} (h : RdE K G W S cs e) (s : Same G G') : RdE K G' W S cs e := by
  obtain ⟨t, l, h1, h2, h3, h4, h5, h6⟩ := h.ex
  exact ⟨t, l, h1, h2, h3, h4, h5.same (fun a xs => sqt_same s), h6.same s⟩
structure Rq (P : Program) (w : World) (K : PySem.W.Frag) (C CR : Addr) (H : Hp) (x du dd : Addr) (R : Tb) (F : Fb) (S : Tb) (W : Wd) (cs : List Cl) : Prop where
  ne : du ≠ dd
  ob : ∃ dx sx ax cl dc, H x = some (.ins CR dx (fldQ (.ref sx) (.ref ax) (.ref cl) (.ref du) (.ref dd) (.ref dc))) ∧ Wv K C (Rx H) sx R F S W ∧
    ∃ ts : List (Addr × Cl), SqL K (Rx H) cl (ts.map fun t => V.ref t.1) ∧ ts.map (·.2) = cs ∧ ∀ t ∈ ts, CallAt K (Rx H) t.1 t.2
  us : ∃ o xs, H du = some (exO du o) ∧ NOk P w du o xs ∧ ∀ e ∈ xs, UsE K (Rx H) W R S e
  rd : ∃ o xs, H dd = some (exO dd o) ∧ NOk P w dd o xs ∧ ∀ e ∈ xs, RdE K (Rx H) W S cs e
  ln : R.length ≤ 500 ∧ S.length ≤ 500 ∧ cs.length ≤ 1000
section
variable {P : Program} {w : World} {K : PySem.W.Frag} {C CR : Addr} {H : Hp} {x du dd : Addr} {R : Tb} {F : Fb} {S : Tb} {W : Wd} {cs : List Cl}
theorem Rq.kx (q : Rq P w K C CR H x du dd R F S W cs) {H' : Hp} (s : Same (Rm H du dd) (Rm H' du dd)) : Same (Rx H) (Rx H') := by
  obtain ⟨o, _, e, _⟩ := q.us
  obtain ⟨o2, _, e2, _⟩ := q.rd
  exact Rm.rx s e e2
/-- all else stays: the rest of a Request follows -/
theorem Rq.next (q : Rq P w K C CR H x du dd R F S W cs) {H' : Hp} (s : Same (Rx H) (Rx H'))
    (us : ∃ o xs, H' du = some (exO du o) ∧ NOk P w du o xs ∧ ∀ e ∈ xs, UsE K (Rx H') W R S e)
    (rd : ∃ o xs, H' dd = some (exO dd o) ∧ NOk P w dd o xs ∧ ∀ e ∈ xs, RdE K (Rx H') W S cs e) : Rq P w K C CR H' x du dd R F S W cs := by
  obtain ⟨dx, sx, ax, cl, dc, e, wv, ts, h1, h2, h3⟩ := q.ob
  exact ⟨q.ne, ⟨dx, sx, ax, cl, dc, Rx.le _ _ _ (s _ _ (Rx.of e fun f z => nomatch z)), wv.same s, ts, s.seq h1, h2, fun t m => (h3 t m).same s⟩, us, rd, q.ln⟩
theorem Rq.same (q : Rq P w K C CR H x du dd R F S W cs) {H' : Hp} (s : Same H H') : Rq P w K C CR H' x du dd R F S W cs := by
  have s' := Rx.mono s
  obtain ⟨o, xs, e1, n1, k1⟩ := q.us
  obtain ⟨o2, xs2, e2, n2, k2⟩ := q.rd
  exact q.next s' ⟨o, xs, s _ _ e1, n1, fun e m => (k1 e m).same s'⟩ ⟨o2, xs2, s _ _ e2, n2, fun e m => (k2 e m).same s'⟩
/-- another dict, not the Request's own, is written -/
theorem Rq.over (q : Rq P w K C CR H x du dd R F S W cs) {D : Addr} {f g : Heap → Prop} (h : H D = some (.ext f)) (n1 : D ≠ du) (n2 : D ≠ dd) : Rq P w K C CR (upd H D (.ext g)) x du dd R F S W cs := by
  have eR : Rx (upd H D (.ext g)) = Rx H := Rx.put (.inr ⟨f, h⟩)
  obtain ⟨o, xs, e1, n1', k1⟩ := q.us
  obtain ⟨o2, xs2, e2, n2', k2⟩ := q.rd
  exact q.next (by rw [eR]; exact Same.refl _) ⟨o, xs, by rw [upd_ne n1.symm]; exact e1, n1', by rw [eR]; exact k1⟩ ⟨o2, xs2, by rw [upd_ne n2.symm]; exact e2, n2', by rw [eR]; exact k2⟩
/-- the keys of used -/
def nmAll (R S : Tb) : List Nm := R.map (fun e => Nm.rel e.1) ++ S.map fun e => Nm.str e.1
theorem valG_has {β : Type} : ∀ {T : List (Str × β)} {n : Str}, (valG T n).isSome = true → ∃ b, (n, b) ∈ T := by
  intro T n h
  obtain ⟨b, e⟩ := Option.isSome_iff_exists.mp h
  exact ⟨b, valG_mem e⟩
theorem nmAll_mem {m : Nm} (h : NmOk R S m) : m ∈ nmAll R S := by
  cases m with
  | rel n =>
    obtain ⟨b, e⟩ := valG_has h
    exact List.mem_append_left _ (List.mem_map.mpr ⟨_, e, rfl⟩)
  | str n =>
    obtain ⟨b, e⟩ := valG_has h
    exact List.mem_append_right _ (List.mem_map.mpr ⟨_, e, rfl⟩)
theorem flat_prod {α β γ : Type} (as : List α) (bs : List β) (f : α → β → γ) : (as.flatMap fun a => bs.map fun b => f a b).length = as.length * bs.length := by
  induction as with
  | nil => simp
  | cons e r ih => rw [List.flatMap_cons, List.length_append, ih, List.length_map, List.length_cons, Nat.succ_mul, Nat.add_comm]
theorem us_len {d : Addr} {o : Obj} {xs : List NE} {G : Hp} (n : NOk P w d o xs) (k : ∀ e ∈ xs, UsE K G W R S e) : xs.length ≤ R.length + S.length := by
  have := Ow.nodup_len (xs.map (·.1)) ((nmAll R S).map mkey) n.nodup fun y my => by
    obtain ⟨e, me, rfl⟩ := List.mem_map.mp my
    obtain ⟨m, h1, h2, _⟩ := (k e me).ex
    exact List.mem_map.mpr ⟨m, nmAll_mem h1, h2.symm⟩
  rw [List.length_map, List.length_map, nmAll, List.length_append, List.length_map, List.length_map] at this
  exact this
theorem rd_len {d : Addr} {o : Obj} {xs : List NE} {G : Hp} (n : NOk P w d o xs) (k : ∀ e ∈ xs, RdE K G W S cs e) : xs.length ≤ S.length * cs.length := by
  have := Ow.nodup_len (xs.map (·.1)) (S.flatMap fun e => cs.map fun l => rkey e.1 l) n.nodup fun y my => by
    obtain ⟨e, me, rfl⟩ := List.mem_map.mp my
    obtain ⟨s, l, h1, h2, h3, h4, _⟩ := (k e me).ex
    obtain ⟨b, hb⟩ := valG_has h1
    exact List.mem_flatMap.mpr ⟨_, hb, List.mem_map.mpr ⟨l, h2, h4.symm⟩⟩
  rw [List.length_map] at this
  refine Nat.le_trans this (Nat.le_of_eq ?_)
  exact flat_prod S cs fun e l => rkey e.1 l
end
end K1
namespace K1
open PySem PySem.Spec PyProof.Rows L2 Ow Tlz
abbrev sRequest_bucket_sectors : Stmt := inClass (topS 28) 1
abbrev NRequest_bucket_sectors : List Str := ["self", "name", "number", "first", "at"]
theorem scRequest_bucket_sectors : FnScope NRequest_bucket_sectors ["self", "name", "number"] (defScope sRequest_bucket_sectors) := ⟨rfl, rfl, rfl, by decide +kernel, rfl, by decide +kernel, by decide +kernel⟩
theorem pkn_le {rs : Rw} (h : Short rs) : pkn rs ≤ rs.length := by
  have := (pkAll_len (pkF_ok' (cs := codes rs) fun c m => by
    obtain ⟨t, mt, rfl⟩ := List.mem_map.mp m
    exact h t mt)).1
  unfold pkn
  unfold codes at this ⊢
  rw [List.length_map] at this
  exact this
section
variable {K : PySem.W.Frag} {C : Addr} {H : Hp} {x : Addr} {R : Tb} {F : Fb} {S : Tb} {W : Wd}
theorem Wv.cnt (wv : Wv K C H x R F S W) {m : Nm} (ok : NmOk R S m) : ∀ c ∈ cntN W m, 0 ≤ c ∧ c ≤ 90 := by
  cases m with
  | rel n =>
    obtain ⟨⟨qr, c⟩, er⟩ := some_val ok
    obtain ⟨_, l4, r1, r40, ⟨qf, ef⟩, lr, sh, wid⟩ := wv.rel _ _ _ er
    intro c m
    obtain rfl : c = ((pkn (W.rows n) : Nat) : Int) := by simpa [cntN] using m
    have := pkn_le sh
    omega
  | str n =>
    obtain ⟨⟨qs, c⟩, es⟩ := some_val ok
    have si := wv.str _ _ _ es
    obtain ⟨q1, c1, q2, c2, r, e1, _, e2, _⟩ := si.ex
    obtain ⟨_, l4, r1, r40, ⟨qf, ef⟩, lr, sh, wid⟩ := wv.rel _ _ _ e2
    intro c m
    obtain ⟨rs, mr, rfl⟩ := List.mem_map.mp m
    obtain ⟨k, _, rfl⟩ := List.mem_map.mp mr
    have h1 := pkn_le (rs := (W.rows (W.srel n)).filter fun t => decide (bkt (W.scs n) (W.cols (W.srel n)) (W.sb n) t.2 = (k : Int))) fun t mt => sh t (List.mem_filter.mp mt).1
    have h2 : ((W.rows (W.srel n)).filter fun t => decide (bkt (W.scs n) (W.cols (W.srel n)) (W.sb n) t.2 = (k : Int))).length ≤ (W.rows (W.srel n)).length := List.length_filter_le _ _
    omega
theorem Wv.room (wv : Wv K C H x R F S W) {m : Nm} (ok : NmOk R S m) : 1 ≤ roomN W m ∧ roomN W m ≤ 40 := by
  cases m with
  | rel n =>
    obtain ⟨⟨qr, c⟩, er⟩ := some_val ok
    obtain ⟨_, l4, r1, r40, _⟩ := wv.rel _ _ _ er
    show 1 ≤ ((W.room n : Nat) : Int) ∧ ((W.room n : Nat) : Int) ≤ 40
    omega
  | str n =>
    obtain ⟨⟨qs, c⟩, es⟩ := some_val ok
    have si := wv.str _ _ _ es
    have h1 := si.s1
    have h2 := si.s2
    show 1 ≤ W.ss n ∧ W.ss n ≤ 40
    omega
end
theorem Sec.of {K : PySem.W.Frag} {H : Hp} {p : Addr} {ts : List Addr} {bs : List Sct} (e : SqL K H p (ts.map V.ref)) (l : ts.length = bs.length) (h : ∀ (i : Nat) a b, ts[i]? = some a → bs[i]? = some b → SecAt K H a b) : Sec K H p bs := by
  refine ⟨ts.zip bs, ?_, List.map_snd_zip (Nat.le_of_eq l.symm), fun t m => ?_⟩
  · have : (ts.zip bs).map (fun t => V.ref t.1) = ts.map V.ref := by
      rw [← List.map_fst_zip (Nat.le_of_eq l) (l₁ := ts) (l₂ := bs), List.map_map, List.map_fst_zip (Nat.le_of_eq l)]
      rfl
    rw [this]
    exact e
  · obtain ⟨i, hi⟩ := List.getElem?_of_mem m
    rw [List.getElem?_zip_eq_some] at hi
    exact h i _ _ hi.1 hi.2
/-- the dict used is told at name m -/
structure UsAt (P : Program) (w : World) (K : PySem.W.Frag) (H : Hp) (du dd : Addr) (W : Wd) (m : Nm) : Prop where
  ex : ∃ o xs p, H du = some (exO du o) ∧ NOk P w du o xs ∧ (∀ e ∈ xs, NkA K H e.2.1 e.1) ∧ atN xs (mkey m) = some (.ref p) ∧ SqL K (Rx H) p ((cntN W m).map V.int)
def spBsec (P : Program) (w : World) (K : PySem.W.Frag) (C CR : Addr) : Sp := fun vs H Q _ => ∃ (x t du dd : Addr) (k : Nat) (m : Nm) (R S : Tb) (F : Fb) (W : Wd) (cs : List Cl), vs = [.ref x, .ref t, .int (k : Int)] ∧
  Rq P w K C CR H x du dd R F S W cs ∧ NmOk R S m ∧ NmAt K H t m ∧ k < (cntN W m).length ∧
  ∀ H' p, Same (Rm H du dd) (Rm H' du dd) → Rq P w K C CR H' x du dd R F S W cs → Sec K (Rx H') p (bsec W m k) → Q (.ref p) H'
section
variable {P : Program} {w : World} {K : PySem.W.Frag} {mg : Str → Option Value} {base : Heap} {C CR : Addr}
theorem ok_bsec {f : Addr} {fd : FuncData} (F0 : Fun K "bucket_sectors" "Request.bucket_sectors" sRequest_bucket_sectors f fd) (T0 : Bl mg) (XQ : TxtQ K mg CR)
    (Dused_counts : Kn P w K mg base 8 "used_counts" ["state", "name"] (spUsed K C)) (Dbucket_room : Kn P w K mg base 1 "bucket_room" ["state", "name"] (spBRoom K C)) :
    FnOk P w K mg base CX0 9 f fd ["self", "name", "number"] (spBsec P w K C CR) := by
  refine F0.ok scRequest_bucket_sectors (fun vs H Q E h => ?_) (fun cdv A outer s0 H vs Q E hr h => ?_)
  · obtain ⟨x, t, du, dd, k, m, R, S, F, W, cs, rfl, _⟩ := h
    rfl
  · obtain ⟨x, t, du, dd, k, m, R, S, F, W, cs, rfl, rq, ok, at_, kl, q⟩ := h
    refine ⟨_, (pss_mid (ps_if (pt_cmpR (op_notInN (hu64 hr)) (pv 1) (pe_fld (pv 0) rfl) (by rfl)) (pss_one (ps_asg (pe_kn Dused_counts hr (pa_cons (pe_fld (pv 0) rfl) (pa_cons (pv 1) pa_nil))) (pg_sub (pe_fld (pv 0) rfl) (pv 1) (set_dictN (hu64 hr))))) pss_nil)
      (pss_cons (ps_set (i := 3) scRequest_bucket_sectors.nd rfl (.inr rfl) (pe_op op_mul (pv 2) (pe_kn Dbucket_room hr (pa_cons (pe_fld (pv 0) rfl) (pa_cons (pv 1) pa_nil)))))
      (pss_one (ps_ret (pe_lc (own := [("at", 4)]) (g := gName 4) (tt := tYes) rfl scRequest_bucket_sectors.nd (pi_range1 (by rfl) T0.range (pa_cons (pe_ix ix_list (pe_nget (hu64 hr) (pe_fld (pv 0) rfl) (pv 1) (fun _ _ => rfl)) (pv 2) (fun _ _ => rfl)) pa_nil)) (blkOk_by (own := [("at", 4)]) (N := NRequest_bucket_sectors) (sc := defScope sRequest_bucket_sectors) (by decide +kernel)) (fun _ _ _ _ _ => pg_name (i := 4) scRequest_bucket_sectors.nd rfl (Or.inl rfl)) (fun _ _ _ _ _ => pts_nil) (fun _ _ _ _ _ => (pe_tup (pa_cons (pv 1) (pa_cons (pe_op op_add (pv 3) (pv 4)) pa_nil))))))))), ?_⟩
    refine ⟨fun σ' H' => σ' = start NRequest_bucket_sectors [.ref x, .ref t, .int (k : Int)] ∧ Same (Rm H du dd) (Rm H' du dd) ∧ Rq P w K C CR H' x du dd R F S W cs ∧ UsAt P w K H' du dd W m, ?_, ?_⟩
    · obtain ⟨dx, sx, ax, cl, dc, ex, wv, ts, h1, h2, h3⟩ := rq.ob
      obtain ⟨o, xs, ed, no, ke⟩ := rq.us
      have ks : ∀ e ∈ xs, NkA K H e.2.1 e.1 := fun e me => by
        obtain ⟨_, _, _, z, _⟩ := (ke e me).ex
        exact z.same fun a xs => sqt_same (Rx.le _)
      refine ⟨_, rfl, _, rfl, x, CR, dx, _, _, rfl, ex, XQ.cl, XQ.n_used, fldQ_used _ _ _ _ _ _, t, du, mkey m, o, xs, rfl, rfl, at_.nka, ⟨ed, no, ks⟩, ?_⟩
      cases ea : atN xs (mkey m) with
      | some v =>
        refine ⟨_, rfl, ite2 (fun z => by cases z) fun _ => ?_⟩
        obtain ⟨b, mb⟩ := atN_mem ea
        obtain ⟨m', h4, h5, h6, p, h7, h8⟩ := (ke _ mb).ex
        have : m = m' := mkey_inj h5
        subst this
        cases h7
        exact ⟨rfl, Same.refl _, rq, ⟨o, xs, p, ed, no, ks, ea, h8⟩⟩
      | none =>
        refine ⟨_, rfl, ite2 (fun _ => ?_) fun z => absurd rfl z⟩
        refine ⟨_, rfl, x, CR, dx, _, _, rfl, ex, XQ.cl, XQ.n_before, fldQ_before _ _ _ _ _ _, _, rfl, sx, t, m, R, S, F, W, rfl, wv.same (Rx.le _), ok, at_, fun H1 p s1 np ep => ?_⟩
        have rq1 := rq.same s1
        have s1' := Rm.mono (d := du) (e := dd) s1
        obtain ⟨od, xd, edd, nod, ked⟩ := rq1.rd
        refine ⟨_, rfl, x, CR, dx, _, _, rfl, s1 _ _ ex, XQ.cl, XQ.n_used, fldQ_used _ _ _ _ _ _, _, rfl, du, t, mkey m, o, xs, rfl, rfl, (at_.same s1).nka, ⟨s1 _ _ ed, no, fun e me => (ks e me).same fun a xs => sqt_same s1⟩, ?_, fun o' no' => ?_⟩
        · have := us_len no ke
          have := rq.ln
          exact Nat.lt_of_le_of_lt (m := 1000) (by omega) (by decide)
        · have eM : Rm (upd H1 du (exO du o')) du dd = Rm H1 du dd := Rm.put (.inl rfl)
          have eR : Rx (upd H1 du (exO du o')) = Rx H1 := Rx.put (.inr ⟨_, s1 _ _ ed⟩)
          have epR : SqL K (Rx H1) p ((cntN W m).map V.int) := Rx.sql (SqL.of ep)
          have nk1 : NkA K (Rx H1) t (mkey m) := NmAt.nka (Rx.sqt (at_.same s1))
          have ke' : ∀ e ∈ putN xs (mkey m) t (.ref p), UsE K (Rx H1) W R S e := fun e me => by
            rw [putN_new ea] at me
            rcases List.mem_append.mp me with me | me
            · exact (ke e me).same (Rx.mono s1)
            · obtain rfl : e = (mkey m, t, V.ref p) := by simpa using me
              exact ⟨m, ok, rfl, nk1, p, rfl, epR⟩
          refine ⟨rfl, by rw [eM]; exact s1', rq1.next (by rw [eR]; exact Same.refl _) ⟨o', _, upd_same, no', by rw [eR]; exact ke'⟩ ⟨od, xd, by rw [upd_ne rq.ne.symm]; exact edd, nod, by rw [eR]; exact ked⟩,
            ⟨o', _, p, upd_same, no', fun e me => ?_, atN_put ea, by rw [eR]; exact epR⟩⟩
          obtain ⟨_, _, _, z, _⟩ := (ke' e me).ex
          refine z.same fun a xs h => ?_
          rw [← eR] at h
          exact sqt_same (Rx.le _) h
    · rintro σ' H1 ⟨rfl, s1, rq1, ua⟩
      obtain ⟨dx, sx, ax, cl, dc, ex, wv, ts, h1, h2, h3⟩ := rq1.ob
      have at1 : NmAt K H1 t m := sqt_same (Rx.le _) (sqt_same (rq.kx s1) (Rx.sqt at_))
      refine ⟨_, rfl, _, rfl, x, CR, dx, _, _, rfl, ex, XQ.cl, XQ.n_before, fldQ_before _ _ _ _ _ _, _, rfl, sx, t, m, R, S, F, W, rfl, wv.same (Rx.le _), ok, at1, ?_⟩
      obtain ⟨r1, r40⟩ := wv.room ok
      refine ⟨_, _, rfl, rfl, .inr ⟨by omega, by omega⟩, ?_⟩
      obtain ⟨o, xs, p, ed, no, ks, ea, ep⟩ := ua.ex
      have ec : (cntN W m)[k]? = some ((cntN W m).getD k 0) := by
        rw [List.getD_eq_getElem?_getD, List.getElem?_eq_getElem kl]
        rfl
      obtain ⟨c0, c90⟩ := wv.cnt ok _ (List.mem_of_getElem? ec)
      refine ⟨_, rfl, x, CR, dx, _, _, rfl, ex, XQ.cl, XQ.n_used, fldQ_used _ _ _ _ _ _, _, rfl, du, t, mkey m, o, xs, _, rfl, rfl, at1.nka, ⟨ed, no, ks⟩, ea, ?_⟩
      refine ⟨_, rfl, p, _, (k : Int), .int ((cntN W m).getD k 0), rfl, rfl, (Rx.le _).seq ep, ?_, ?_⟩
      · exact atI_nat (by rw [List.getElem?_map, ec]; rfl)
      · refine ⟨_, rfl, by omega, by omega, fun D nD => ?_⟩
        refine lc_newT walk_range (fun j => [.ref t, .int ((k : Int) * roomN W m + (j : Int))]) (Nat.lt_of_le_of_lt (m := 90) (by omega) (by decide)) nD (fun _ _ => trivial) (fun i y H2 H2' N hi s2 yy fin => ?_) fun H2 ts2 s2 eD lu gu => ?_
        · obtain ⟨rfl, rfl⟩ := yy
          refine ⟨rfl, _, rfl, _, rfl, _, rfl, _, _, rfl, rfl, sz 2, fun u nu => fin _ u (Same.new nu) ?_⟩
          rw [upd_same]
          simp
        · have rq2 := rq1.same s2
          refine q _ _ (s1.trans (Rm.mono s2)) rq2 ?_
          obtain ⟨o2, _, e2, _⟩ := rq2.us
          obtain ⟨o3, _, e3, _⟩ := rq2.rd
          refine Sec.of (Rx.sql (SqL.of eD)) (by rw [lu, bsec, List.length_map, List.length_range]) fun i a b ea2 eb => ?_
          unfold bsec at eb
          rw [List.getElem?_map] at eb
          obtain ⟨j, ej, rfl⟩ := Option.map_eq_some_iff.mp eb
          have hj : i < ((cntN W m).getD k 0).toNat := by
            have := (List.getElem?_eq_some_iff.mp ej).1
            rw [List.length_range] at this
            exact this
          rw [List.getElem?_range hj] at ej
          cases ej
          exact ⟨t, Rx.sqt (.inl (.inl (gu _ _ ea2))), Rx.sqt (at1.same s2)⟩
end
end K1
namespace K1
open PySem PySem.Spec PyProof.Rows L2 Ow Tlz
abbrev sRequest_in_structure : Stmt := inClass (topS 28) 2
abbrev NRequest_in_structure : List Str := ["self", "structure", "call", "_", "pattern", "values", "number", "at"]
theorem scRequest_in_structure : FnScope NRequest_in_structure ["self", "structure", "call"] (defScope sRequest_in_structure) := ⟨rfl, rfl, rfl, by decide +kernel, rfl, by decide +kernel, by decide +kernel⟩
theorem fldQ_no {m : Str} (b a c u r g : V) (h : ¬ (m = "before") ∧ ¬ (m = "after") ∧ ¬ (m = "calls") ∧ ¬ (m = "used") ∧ ¬ (m = "reads") ∧ ¬ (m = "changed")) : (fldQ b a c u r g).lookup m = none := by
  obtain ⟨h1, h2, h3, h4, h5, h6⟩ := h
  unfold fldQ
  rw [lookup_putF, if_neg h6, lookup_putF, if_neg h5, lookup_putF, if_neg h4, lookup_putF, if_neg h3, lookup_putF, if_neg h2, lookup_putF, if_neg h1]
  rfl
theorem no_bucket_sectors (b a c u r g : V) : (fldQ b a c u r g).lookup ("bucket_sectors" : Str) = none := fldQ_no b a c u r g (by decide +kernel)
theorem no_in_structure (b a c u r g : V) : (fldQ b a c u r g).lookup ("in_structure" : Str) = none := fldQ_no b a c u r g (by decide +kernel)
theorem no_found_in_structure (b a c u r g : V) : (fldQ b a c u r g).lookup ("found_in_structure" : Str) = none := fldQ_no b a c u r g (by decide +kernel)
theorem no_call_sectors (b a c u r g : V) : (fldQ b a c u r g).lookup ("call_sectors" : Str) = none := fldQ_no b a c u r g (by decide +kernel)
theorem no_sectors_read (b a c u r g : V) : (fldQ b a c u r g).lookup ("sectors_read" : Str) = none := fldQ_no b a c u r g (by decide +kernel)
theorem inV_non {xs : List V} (h : PatOk xs) : xs.all flatV = true ∧ inV .non xs = decide (V.non ∈ xs) := by
  have e : ∀ {v : V}, v = .non ∨ Scal v → flatV v = true ∧ eqV v .non = decide (v = .non) := fun {v} z => by
    rcases z with rfl | ⟨i, rfl, _⟩ | ⟨z, rfl, _⟩
    · exact ⟨rfl, by rw [decide_eq_true rfl]; rfl⟩
    · exact ⟨rfl, by rw [decide_eq_false (fun z => nomatch z)]; rfl⟩
    · exact ⟨rfl, by rw [decide_eq_false (fun z => nomatch z)]; rfl⟩
  refine ⟨List.all_eq_true.mpr fun v m => (e (h v m)).1, ?_⟩
  unfold inV
  by_cases z : V.non ∈ xs
  · rw [decide_eq_true z]
    exact List.any_eq_true.mpr ⟨_, z, by rw [(e (.inl rfl)).2]; exact decide_eq_true rfl⟩
  · rw [decide_eq_false z]
    refine List.any_eq_false.mpr fun v m y => z ?_
    rw [(e (h v m)).2] at y
    have := of_decide_eq_true y
    rw [← this]
    exact m
def spIns (P : Program) (w : World) (K : PySem.W.Frag) (C CR : Addr) : Sp := fun vs H Q _ => ∃ (x c du dd : Addr) (s : Str) (l : Cl) (R S : Tb) (F : Fb) (W : Wd) (cs : List Cl), vs = [.ref x, .str s, .ref c] ∧
  Rq P w K C CR H x du dd R F S W cs ∧ (valG S s).isSome = true ∧ CallAt K H c l ∧ l.p.length = (W.cols (W.srel s)).length ∧
  ∀ H' v, Same (Rm H du dd) (Rm H' du dd) → Rq P w K C CR H' x du dd R F S W cs → RdV K (Rx H') v (inS W s l) → Q v H'
section
variable {P : Program} {w : World} {K : PySem.W.Frag} {mg : Str → Option Value} {base : Heap} {C CR : Addr}
theorem ok_ins {f : Addr} {fd : FuncData} (F0 : Fun K "in_structure" "Request.in_structure" sRequest_in_structure f fd) (T0 : Bl mg) (X : Txt K mg C) (XQ : TxtQ K mg CR)
    (Dcolumn_places : Kn P w K mg base 1 "column_places" ["state", "structure"] (spColPl K C))
    (Dbucket_of_values : Kn P w K mg base 5 "bucket_of_values" ["values", "buckets"] (spBuck K))
    (Qbsec : Kmt P w K mg base CR 9 "bucket_sectors" ["self", "name", "number"] (spBsec P w K C CR)) :
    FnOk P w K mg base CX0 10 f fd ["self", "structure", "call"] (spIns P w K C CR) := by
  refine F0.ok scRequest_in_structure (fun vs H Q E h => ?_) (fun cdv A outer s0 H vs Q E hr h => ?_)
  · obtain ⟨x, c, du, dd, s, l, R, S, F, W, cs, rfl, _⟩ := h
    rfl
  · obtain ⟨x, c, du, dd, s, l, R, S, F, W, cs, rfl, rq, hs, ca, lp, q⟩ := h
    have hu := hu_of hr
    refine ⟨_, (pss_cons (ps_asg (pv 2) (pg_tup rfl (pgs_cons (pg_name (i := 3) scRequest_in_structure.nd rfl (.inl rfl)) (pgs_cons (pg_name (i := 4) scRequest_in_structure.nd rfl (.inr rfl)) pgs_nil))))
      (pss_cons (ps_set (i := 5) scRequest_in_structure.nd rfl (.inl rfl) (pe_callTy call_tuple_of (by rfl) T0.tuple (by decide +kernel) (pa_cons (pe_lc (own := [("at", 7)]) (g := gName 7) (tt := tYes) rfl scRequest_in_structure.nd (pi_list (pe_kn Dcolumn_places hr (pa_cons (pe_fld (pv 0) rfl) (pa_cons (pv 1) pa_nil)))) (blkOk_by (own := [("at", 7)]) (N := NRequest_in_structure) (sc := defScope sRequest_in_structure) (by decide +kernel)) (fun _ _ _ _ _ => pg_name (i := 7) scRequest_in_structure.nd rfl (Or.inl rfl)) (fun _ _ _ _ _ => pts_nil) (fun _ _ _ _ _ => (pe_ix (ix_tup_K rfl) (pv 4) (pv 7) (fun _ _ => rfl)))) pa_nil)))
      (pss_cons (ps_if (pt_cmpR op_in_seq pe_non (pv 5) (by rfl)) (pss_one (ps_ret pe_non)) pss_nil)
      (pss_cons (ps_set (i := 6) scRequest_in_structure.nd rfl (.inl rfl) (pe_kn Dbucket_of_values hr (pa_cons (pv 5) (pa_cons (pe_ix ix_tup (pe_dget (hu_of hr) (pe_fld (pe_fld (pv 0) rfl) rfl) (pv 1) (fun _ _ => rfl)) pe_int (fun _ _ => rfl)) pa_nil))))
      (pss_one (ps_ret (pe_mt Qbsec hr (pv 0) (pa_cons (pe_tup (pa_cons pe_str (pa_cons (pv 1) pa_nil))) (pa_cons (pv 6) pa_nil))))))))), ?_⟩
    obtain ⟨dx, sx, ax, cl, dc, ex, wv, _⟩ := id rq.ob
    obtain ⟨qp, hc1, hc2, po, l10⟩ := ca
    obtain ⟨⟨qs, cc0⟩, es⟩ := some_val hs
    have wvH := wv.same (Rx.le _)
    have si := wvH.str _ _ _ es
    have sv := wvH.sv
    have eV : stVals W s l = valsOf (W.scs s) (W.cols (W.srel s)) l.p := rfl
    refine ⟨_, rfl, c, _, rfl, hc1, rfl, _, _, rfl, _, _, rfl, rfl, ?_⟩
    refine ⟨_, rfl, x, CR, dx, _, _, rfl, ex, XQ.cl, XQ.n_before, fldQ_before _ _ _ _ _ _, _, rfl, sx, s, W.srel s, R, S, F, W.scs s, W.cols (W.srel s), W.sb s, W.ss s, rfl, sv, si, fun H1 pl s1 npl epl => ?_⟩
    refine ⟨pl, rfl, ⟨_, SqL.of epl⟩, fun D nD => lc_list (K := K) (a := pl) (xs := ((W.scs s).map fun x => ((cix (W.cols (W.srel s)) x : Nat) : Int)).map V.int) (fun i H4 => Same H1 H4 ∧ H4 D = some (.lst (valsOf ((W.scs s).take i) (W.cols (W.srel s)) l.p)))
      ⟨Same.new nD, upd_same⟩ (fun i H4 _ hP => SqL.of (hP.1 _ _ epl)) (fun i y H4 hy hP => ?_) (fun H4 hP => ?_)⟩
    · obtain ⟨s4, eD⟩ := hP
      rw [List.getElem?_map, List.getElem?_map] at hy
      cases ec : (W.scs s)[i]? with
      | none => rw [ec] at hy; cases hy
      | some c =>
        rw [ec] at hy
        have ey : V.int ((cix (W.cols (W.srel s)) c : Nat) : Int) = y := Option.some.inj hy
        subst ey
        obtain ⟨v, hv, mv, ev⟩ := vals_at si lp (List.mem_of_getElem? ec)
        have il : i < (W.scs s).length := (List.getElem?_eq_some_iff.mp ec).1
        have lcs := si.l
        refine ⟨rfl, ?_⟩
        refine ⟨_, rfl, _, rfl, qp, l.p, _, v, rfl, rfl, Tk.same (s1.trans s4) _ _ hc2, at_of (j := cix (W.cols (W.srel s)) c) rfl hv, _, eD, ?_, Same.over s4 nD, ?_⟩
        · unfold valsOf
          rw [List.length_map, List.length_take]
          exact small (m := 1000) (by omega) (by decide)
        · rw [upd_same, take_snoc' ec]
          unfold valsOf
          rw [List.map_append]
          show _ = some (HO.lst (_ ++ [l.p.getD (cix (W.cols (W.srel s)) c) .non]))
          rw [ev]
    obtain ⟨s4, eD⟩ := hP
    rw [List.length_map, List.length_map, List.take_length] at eD
    refine ⟨D, _, rfl, .inl ⟨SqL.of eD, fun tl ntl => ?_⟩⟩
    have s5 := (s1.trans s4).trans (Same.new (o := .tup (valsOf (W.scs s) (W.cols (W.srel s)) l.p)) ntl)
    have e5 := upd_same (H := H4) (a := tl) (o := .tup (valsOf (W.scs s) (W.cols (W.srel s)) l.p))
    generalize (upd H4 tl (.tup (valsOf (W.scs s) (W.cols (W.srel s)) l.p))) = H5 at *
    have pv : PatOk (valsOf (W.scs s) (W.cols (W.srel s)) l.p) := fun v m => by
      obtain ⟨y, my, rfl⟩ := List.mem_map.mp m
      obtain ⟨v, hv, mv, ev⟩ := vals_at si lp my
      rw [ev]
      exact po v mv
    obtain ⟨fl, iv⟩ := inV_non pv
    refine ⟨_, rfl, tl, _, rfl, .inr (SqT.of e5), rfl, fl, ?_⟩
    rw [iv]
    refine ⟨_, rfl, ?_⟩
    by_cases z : V.non ∈ valsOf (W.scs s) (W.cols (W.srel s)) l.p
    · rw [decide_eq_true z]
      refine ite2 (fun _ => ?_) fun y => absurd rfl y
      refine q _ _ (Rm.mono s5) (rq.same s5) ?_
      unfold inS
      rw [eV, if_pos z]
      rfl
    · rw [decide_eq_false z]
      refine ite2 (fun y => by cases y) fun _ => ?_
      have sc : ∀ v ∈ valsOf (W.scs s) (W.cols (W.srel s)) l.p, Scal v := fun v m => by
        rcases pv v m with e | e
        · rw [e] at m
          exact absurd m z
        · exact e
      have lc : (valsOf (W.scs s) (W.cols (W.srel s)) l.p).length ≤ 10 := by
        unfold valsOf
        rw [List.length_map]
        have := si.l
        omega
      obtain ⟨⟨dx', dr, df, ds, dl, ob, hr', hf, hs'⟩, rt, ft, st⟩ := sv.same s5
      obtain ⟨qa, cc, qb, cr, r', e1, hcc, e2, hcr⟩ := si.ex
      have b1 := si.b1
      refine ⟨_, rfl, _, rfl, x, CR, dx, _, _, rfl, s5 _ _ ex, XQ.cl, XQ.n_before, fldQ_before _ _ _ _ _ _, sx, C, dx', _, _, rfl, ob, X.cl, X.nS, flds_s _ _ _ _, _, rfl, ds, _, rfl, dget_n (.inl hs') e1, qa, _, 2, .int (W.sb s), rfl, rfl, st _ _ _ e1, at_of (j := 2) rfl rfl, tl, _, W.sb s, rfl, SqT.of e5, sc, lc, by omega, fun H6 s6 => ?_⟩
      obtain ⟨k0, k1⟩ := bkt_lt si l.p
      obtain ⟨n, en⟩ := Int.eq_ofNat_of_zero_le k0
      have s6' := s5.trans s6
      have rq6 := rq.same s6'
      refine ⟨_, rfl, x, dx, _, rfl, s6' _ _ ex, no_bucket_sectors _ _ _ _ _ _, _, rfl, sz 2, fun t nt => ?_⟩
      have s7 := Same.new (o := .tup [.str "structure", .str s]) nt
      have e7 := upd_same (H := H6) (a := t) (o := .tup [.str "structure", .str s])
      refine ⟨_, rfl, x, t, du, dd, n, .str s, R, S, F, W, cs, ?_, rq6.same s7, hs, SqT.of e7, ?_, fun H8 p s8 rq8 sec => ?_⟩
      · rw [← en]
        rfl
      · show n < ((grp (W.scs s) (W.cols (W.srel s)) (W.sb s) (W.rows (W.srel s))).map _).length
        rw [List.length_map, grp_len]
        omega
      · refine q _ _ ((Rm.mono (s6'.trans s7)).trans s8) rq8 ?_
        unfold inS
        rw [eV, if_neg z]
        refine ⟨p, rfl, ?_⟩
        rw [en]
        exact sec
end
end K1
namespace K1
open PySem PySem.Spec PyProof.Rows L2 Ow Tlz
abbrev sRequest_found_in_structure : Stmt := inClass (topS 28) 3
abbrev NRequest_found_in_structure : List Str := ["self", "structure", "call", "pair"]
theorem scRequest_found_in_structure : FnScope NRequest_found_in_structure ["self", "structure", "call"] (defScope sRequest_found_in_structure) := ⟨rfl, rfl, rfl, by decide +kernel, rfl, by decide +kernel, by decide +kernel⟩
structure RdAt (P : Program) (w : World) (K : PySem.W.Frag) (H : Hp) (du dd : Addr) (W : Wd) (s : Str) (l : Cl) : Prop where
  ex : ∃ o xs v, H dd = some (exO dd o) ∧ NOk P w dd o xs ∧ (∀ e ∈ xs, NkA K H e.2.1 e.1) ∧ atN xs (rkey s l) = some v ∧ RdV K (Rx H) v (inS W s l)
def spFound (P : Program) (w : World) (K : PySem.W.Frag) (C CR : Addr) : Sp := fun vs H Q _ => ∃ (x c du dd : Addr) (s : Str) (l : Cl) (R S : Tb) (F : Fb) (W : Wd) (cs : List Cl), vs = [.ref x, .str s, .ref c] ∧
  Rq P w K C CR H x du dd R F S W cs ∧ (valG S s).isSome = true ∧ l ∈ cs ∧ CallAt K H c l ∧ l.p.length = (W.cols (W.srel s)).length ∧
  ∀ H' v, Same (Rm H du dd) (Rm H' du dd) → Rq P w K C CR H' x du dd R F S W cs → RdV K (Rx H') v (inS W s l) → Q v H'
theorem rk_nka {K : PySem.W.Frag} {H : Hp} {t c : Addr} {s : Str} {l : Cl} (e : SqT K H t [.str s, .ref c]) (ca : CallAt K H c l) : NkA K H t (rkey s l) :=
  ⟨.tup e (.cons (.str _) (.cons ca.nka.1 .nil)), by
    have := ckey_depth l
    unfold rkey
    simp [NestedKey.depth, NestedKey.depthAll]
    omega⟩
section
variable {P : Program} {w : World} {K : PySem.W.Frag} {mg : Str → Option Value} {base : Heap} {C CR : Addr}
theorem ok_found {f : Addr} {fd : FuncData} (F0 : Fun K "found_in_structure" "Request.found_in_structure" sRequest_found_in_structure f fd) (T0 : Bl mg) (XQ : TxtQ K mg CR)
    (Qins : Kmt P w K mg base CR 10 "in_structure" ["self", "structure", "call"] (spIns P w K C CR)) :
    FnOk P w K mg base CX0 11 f fd ["self", "structure", "call"] (spFound P w K C CR) := by
  refine F0.ok scRequest_found_in_structure (fun vs H Q E h => ?_) (fun cdv A outer s0 H vs Q E hr h => ?_)
  · obtain ⟨x, c, du, dd, s, l, R, S, F, W, cs, rfl, _⟩ := h
    rfl
  · obtain ⟨x, c, du, dd, s, l, R, S, F, W, cs, rfl, rq0, hs, lm, ca0, lp, q⟩ := h
    refine ⟨_, (pss_cons (ps_set (i := 3) scRequest_found_in_structure.nd rfl (.inl rfl) (pe_tup (pa_cons (pv 1) (pa_cons (pv 2) pa_nil))))
      (pss_mid (ps_if (pt_cmpR (op_notInN (hu64 hr)) (pv 3) (pe_fld (pv 0) rfl) (by rfl)) (pss_one (ps_asg (pe_mt Qins hr (pv 0) (pa_cons (pv 1) (pa_cons (pv 2) pa_nil))) (pg_sub (pe_fld (pv 0) rfl) (pv 3) (set_dictN (hu64 hr))))) pss_nil)
      (pss_one (ps_ret (pe_nget (hu64 hr) (pe_fld (pv 0) rfl) (pv 3) (fun _ _ => rfl)))))), ?_⟩
    refine ⟨_, rfl, _, rfl, sz 2, fun t nt => ?_⟩
    have s0' := Same.new (o := .tup [.str s, .ref c]) nt
    have e0 := upd_same (H := H) (a := t) (o := .tup [.str s, .ref c])
    generalize (upd H t (.tup [.str s, .ref c])) = H0 at *
    have rq := rq0.same s0'
    have ca := ca0.same s0'
    have tk : NkA K H0 t (rkey s l) := rk_nka (SqT.of e0) ca
    refine ⟨fun σ' H' => σ' = (start NRequest_found_in_structure [.ref x, .str s, .ref c]).set 3 (some (.ref t)) ∧ Same (Rm H0 du dd) (Rm H' du dd) ∧ Rq P w K C CR H' x du dd R F S W cs ∧ RdAt P w K H' du dd W s l, ?_, ?_⟩
    · obtain ⟨dx, sx, ax, cl, dc, ex, wv, _⟩ := rq.ob
      obtain ⟨o, xs, ed, no, ke⟩ := rq.rd
      have ks : ∀ e ∈ xs, NkA K H0 e.2.1 e.1 := fun e me => by
        obtain ⟨_, _, _, _, _, _, z, _⟩ := (ke e me).ex
        exact z.same fun a xs => sqt_same (Rx.le _)
      have po : PatOk l.p := by
        obtain ⟨_, _, _, z, _⟩ := ca
        exact z
      refine ⟨_, rfl, _, rfl, x, CR, dx, _, _, rfl, ex, XQ.cl, XQ.n_reads, fldQ_reads _ _ _ _ _ _, t, dd, rkey s l, o, xs, rfl, rfl, tk, ⟨ed, no, ks⟩, ?_⟩
      cases ea : atN xs (rkey s l) with
      | some v =>
        refine ⟨_, rfl, ite2 (fun z => by cases z) fun _ => ?_⟩
        obtain ⟨b, mb⟩ := atN_mem ea
        obtain ⟨s', l', h1, h2, h3, h4, h5, h6⟩ := (ke _ mb).ex
        obtain ⟨rfl, rfl⟩ := rkey_inj po h3 h4
        exact ⟨rfl, Same.refl _, rq, ⟨o, xs, v, ed, no, ks, ea, h6⟩⟩
      | none =>
        refine ⟨_, rfl, ite2 (fun _ => ?_) fun z => absurd rfl z⟩
        refine ⟨_, rfl, x, dx, _, rfl, ex, no_in_structure _ _ _ _ _ _, _, rfl, _, rfl, x, c, du, dd, s, l, R, S, F, W, cs, rfl, rq, hs, ca, lp, fun H1 v s1 rq1 rv => ?_⟩
        obtain ⟨dx1, sx1, ax1, cl1, dc1, ex1, _⟩ := rq1.ob
        obtain ⟨ou, xu, eu, nou, keu⟩ := rq1.us
        obtain ⟨o1, xs1, ed1, no1, ke1⟩ := rq1.rd
        have ks1 : ∀ e ∈ xs1, NkA K H1 e.2.1 e.1 := fun e me => by
          obtain ⟨_, _, _, _, _, _, z, _⟩ := (ke1 e me).ex
          exact z.same fun a xs => sqt_same (Rx.le _)
        have tkR : NkA K (Rx H1) t (rkey s l) := (NkA.same (H' := Rx H0) (fun a xs h => Rx.sqt h) tk).same fun a xs => sqt_same (rq.kx s1)
        have tk1 : NkA K H1 t (rkey s l) := tkR.same fun a xs => sqt_same (Rx.le _)
        refine ⟨_, rfl, x, CR, dx1, _, _, rfl, ex1, XQ.cl, XQ.n_reads, fldQ_reads _ _ _ _ _ _, _, rfl, dd, t, rkey s l, o1, xs1, rfl, rfl, tk1, ⟨ed1, no1, ks1⟩, ?_, fun o' no' => ?_⟩
        · have := rd_len no1 ke1
          have h1 := rq.ln
          have h2 : S.length * cs.length ≤ 500 * 1000 := Nat.mul_le_mul h1.2.1 h1.2.2
          exact Nat.lt_of_le_of_lt (m := 500000) (by omega) (by decide)
        · have eM : Rm (upd H1 dd (exO dd o')) du dd = Rm H1 du dd := Rm.put (.inr rfl)
          have eR : Rx (upd H1 dd (exO dd o')) = Rx H1 := Rx.put (.inr ⟨_, ed1⟩)
          have key : atN (putN xs1 (rkey s l) t v) (rkey s l) = some v ∧ ∀ e ∈ putN xs1 (rkey s l) t v, RdE K (Rx H1) W S cs e := by
            have new : RdE K (Rx H1) W S cs (rkey s l, t, v) := ⟨s, l, hs, lm, po, rfl, tkR, rv⟩
            cases e1 : atN xs1 (rkey s l) with
            | none =>
              refine ⟨atN_put e1, fun e me => ?_⟩
              rw [putN_new e1] at me
              rcases List.mem_append.mp me with me | me
              · exact ke1 e me
              · obtain rfl : e = (rkey s l, t, v) := by simpa using me
                exact new
            | some u =>
              refine ⟨atN_over e1, fun e me => ?_⟩
              rcases putN_mem me with ⟨e', me', z⟩ | z
              · subst z
                obtain ⟨s', l', h1, h2, h3, h4, h5, h6⟩ := (ke1 e' me').ex
                by_cases y : e'.1 = rkey s l
                · rw [if_pos y]
                  exact ⟨s, l, hs, lm, po, y, by rw [y]; rw [y] at h5; exact h5, rv⟩
                · rw [if_neg y]
                  exact ke1 e' me'
              · subst z
                exact new
          refine ⟨rfl, by rw [eM]; exact s1, rq1.next (by rw [eR]; exact Same.refl _) ⟨ou, xu, by rw [upd_ne rq.ne]; exact eu, nou, by rw [eR]; exact keu⟩ ⟨o', _, upd_same, no', by rw [eR]; exact key.2⟩,
            ⟨o', _, v, upd_same, no', fun e me => ?_, key.1, by rw [eR]; exact rv⟩⟩
          obtain ⟨_, _, _, _, _, _, z, _⟩ := (key.2 e me).ex
          refine z.same fun a xs h => ?_
          rw [← eR] at h
          exact sqt_same (Rx.le _) h
    · rintro σ' H1 ⟨rfl, s1, rq1, ra⟩
      obtain ⟨dx, sx, ax, cl, dc, ex, _⟩ := rq1.ob
      obtain ⟨o, xs, v, ed, no, ks, ea, rv⟩ := ra.ex
      have tkR : NkA K (Rx H1) t (rkey s l) := (NkA.same (H' := Rx H0) (fun a xs h => Rx.sqt h) tk).same fun a xs => sqt_same (rq.kx s1)
      have tk1 : NkA K H1 t (rkey s l) := tkR.same fun a xs => sqt_same (Rx.le _)
      exact ⟨_, rfl, x, CR, dx, _, _, rfl, ex, XQ.cl, XQ.n_reads, fldQ_reads _ _ _ _ _ _, _, rfl, dd, t, rkey s l, o, xs, v, rfl, rfl, tk1, ⟨ed, no, ks⟩, ea, q _ _ ((Rm.mono s0').trans s1) rq1 rv⟩
end
end K1
/-! sorted of a tuple of texts -/
namespace Ow
open PySem PySem.Spec PyProof.Rows L2
theorem cr_sortedTS {X : Cx} : CallR X (.builtin "sorted") (fun vs H Q => ∃ (a : Addr) (ks : List Str), vs = [V.ref a] ∧ SqT X.K H a (ks.map V.str) ∧ ks.length < 64 ∧
    ∀ ys p, ys.Perm ks → sortedS ys = true → H p = none → Q (.ref p) (upd H p (.lst (ys.map V.str)))) := by
  intro pins s σ H vs us Q I r h
  obtain ⟨a, ks, rfl, hs, h64, q⟩ := h
  obtain ⟨its, rv, hl, hz⟩ := I.tuple hs
  rw [Vals.ref1 r]
  have hlen0 := rv.length
  rw [List.length_map] at hlen0
  have hS := rv.strs
  refine Calls.call_function_entry PyProof.Rows.kind_sorted PyProof.Rows.plain_sorted PyProof.Rows.entry_sorted (PyProof.Rows.args_sorted1 _) ?_
  unfold Builtin.«sorted»
  refine wpAny_bind (m := checkCount "sorted" 1 1 _) (wpAny_pure ?_)
  obtain ⟨o, ho, hc, n, hd⟩ := hl
  refine wpAny_bind (wpAny_collect_seq (A := X.A.in1) a (.inr rfl) ho hc hd (fun h' hk => ?_) (by rw [List.size_toArray, ← hlen0]; exact Nat.le_trans (Nat.le_of_lt h64) (by decide)))
  have I1 : Inv X pins σ H { s with heap := h' } := I.kept (t' := s.toks) hk
  refine wpAny_bind (wpAny_newList ?_ (by rw [Array.length_toList, List.size_toArray, ← hlen0]; exact Nat.le_trans (Nat.le_of_lt h64) (by decide)))
  rw [List.toList_toArray]
  have hoL : (h'.push (seqObj "list" its.toArray 0)).get? h'.objs.size = some (seqObj "list" its.toArray 0) := Heap.get?_push_size _ rfl
  show wpAny _ _ _ _ _ { s with heap := h'.push (seqObj "list" its.toArray 0) }
  refine wpAny_bind (wpAny_holding (wpAny_call_entry PyProof.Rows.slot_list_sort ⟨_, hoL, rfl⟩ PyProof.Rows.entry_list_sort
    (list_sort_treeK strKind_oneLt (s := { s with heap := h'.push (seqObj "list" its.toArray 0) }) hoL hS.keysOf (fun v₁ v₂ rest e => keyKind_strs (by rw [← e]; exact hS)) (by rw [← hlen0]; exact h64) fun st' hp hs => ⟨_, rfl, ?_⟩)
    (PyProof.Rows.args_list_sort _)))
  obtain ⟨ys, g1, g2, g3⟩ := sorted_out_str hS hp hs
  obtain ⟨e', he'⟩ := PyProof.Rows.sortedHeap_at (vs := its) (out := (arrOf st').map (·.2)) hoL
  have hlen : (ys.map V.str).length ≤ sizeLine := by
    rw [List.length_map, g2.length_eq]
    exact Nat.le_trans (Nat.le_of_lt h64) (by decide)
  refine wpAny_pure ⟨_, rfl, .ref h'.objs.size, upd H h'.objs.size (.lst (ys.map V.str)), I1.laid (t' := s.toks) (fun b u e => ?_) (Nat.le_refl _)
    (show ObjOk X.prog X.w _ _ _ (.lst (ys.map V.str)) from ⟨hlen, ((arrOf st').map (·.2)).toList, e', vals_of_strs g1, by rw [Array.toArray_toList]; exact he'⟩), rfl, q ys _ g2 g3 (I1.hok.fresh (Nat.le_refl _))⟩
  have hb : b < h'.objs.size := Heap.lt_size e
  rw [PyProof.Rows.sortedHeap_old (Nat.ne_of_lt hb) (by rw [size_push']; exact Nat.lt_succ_of_lt hb)]
  exact Heap.get?_push_of_some _ e
end Ow
namespace K1
open PySem PySem.Spec PyProof.Rows L2 Ow Tlz
theorem dgetR {H : Hp} {d : Addr} {R : Tb} {n : Str} (h : H d = some (.dK (kvR R))) : DGet H d (.str n) ((valG R n).map fun b => V.ref b.1) := by
  refine .inl ⟨kvR R, Sum.inr n, .inl h, rfl, ?_⟩
  rw [kvR_val]
end K1
namespace K1
open PySem PySem.Spec PyProof.Rows L2 Ow Tlz
abbrev sRequest_call_sectors : Stmt := inClass (topS 28) 4
abbrev NRequest_call_sectors : List Str := ["self", "layout", "call", "relation", "pattern", "best", "structure", "sectors"]
theorem scRequest_call_sectors : FnScope NRequest_call_sectors ["self", "layout", "call"] (defScope sRequest_call_sectors) := ⟨rfl, rfl, rfl, by decide +kernel, rfl, by decide +kernel, by decide +kernel⟩
theorem Sec.nil {K : PySem.W.Frag} {H : Hp} {p : Addr} (h : SqL K H p []) : Sec K H p [] := ⟨[], h, rfl, fun t m => nomatch m⟩
theorem Sec.seq {K : PySem.W.Frag} {H : Hp} {p : Addr} {bs : List Sct} (h : Sec K H p bs) : ∃ xs, SqL K H p xs ∧ xs.length = bs.length := by
  obtain ⟨ts, h1, h2, h3⟩ := h
  exact ⟨_, h1, by rw [← h2, List.length_map, List.length_map]⟩
def bestS (W : Wd) (l : Cl) (ss : List Str) (b : List Sct) : List Sct :=
  ss.foldl (fun b s => if W.srel s = l.r then (match inS W s l with
    | none => b
    | some x => if x.length < b.length then x else b) else b) b
def okC (R : Tb) (W : Wd) (l : Cl) : Prop := (valG R l.r).isSome = true ∧ l.p.length = (W.cols l.r).length
instance (R : Tb) (W : Wd) (l : Cl) : Decidable (okC R W l) := by unfold okC; infer_instance
def callS (R : Tb) (W : Wd) (ss : List Str) (l : Cl) : List Sct := if okC R W l then bestS W l ss (bsec W (.rel l.r) 0) else []
theorem bestS_snoc {W : Wd} {l : Cl} {ss : List Str} {b : List Sct} {i : Nat} {s : Str} (e : ss[i]? = some s) : bestS W l (ss.take (i + 1)) b = if W.srel s = l.r then (match inS W s l with
    | none => bestS W l (ss.take i) b
    | some x => if x.length < (bestS W l (ss.take i) b).length then x else bestS W l (ss.take i) b) else bestS W l (ss.take i) b := by
  rw [take_snoc' e]
  unfold bestS
  rw [List.foldl_append]
  rfl
/-- a layout: structures that are there -/
structure LayOk (K : PySem.W.Frag) (H : Hp) (a : Addr) (S : Tb) (ks ss : List Str) : Prop where
  at_ : SqT K H a (ks.map V.str)
  pm : ss.Perm ks
  so : sortedS ss = true
  ln : ks.length < 64
  mem : ∀ n ∈ ks, (valG S n).isSome = true
theorem LayOk.same {K : PySem.W.Frag} {H H' : Hp} {a : Addr} {S : Tb} {ks ss : List Str} (h : LayOk K H a S ks ss) (s : Same H H') : LayOk K H' a S ks ss := ⟨sqt_same s h.at_, h.pm, h.so, h.ln, h.mem⟩
def spCallS (P : Program) (w : World) (K : PySem.W.Frag) (C CR : Addr) : Sp := fun vs H Q _ => ∃ (x lay c du dd : Addr) (ks ss : List Str) (l : Cl) (R S : Tb) (F : Fb) (W : Wd) (cs : List Cl), vs = [.ref x, .ref lay, .ref c] ∧
  Rq P w K C CR H x du dd R F S W cs ∧ LayOk K H lay S ks ss ∧ l ∈ cs ∧ CallAt K H c l ∧
  ∀ H' p, Same (Rm H du dd) (Rm H' du dd) → Rq P w K C CR H' x du dd R F S W cs → Sec K (Rx H') p (callS R W ss l) → Q (.ref p) H'
section
variable {P : Program} {w : World} {K : PySem.W.Frag} {mg : Str → Option Value} {base : Heap} {C CR : Addr}
theorem ok_calls {f : Addr} {fd : FuncData} (F0 : Fun K "call_sectors" "Request.call_sectors" sRequest_call_sectors f fd) (T0 : Bl mg) (X : Txt K mg C) (XQ : TxtQ K mg CR)
    (Qbsec : Kmt P w K mg base CR 9 "bucket_sectors" ["self", "name", "number"] (spBsec P w K C CR))
    (Qfound : Kmt P w K mg base CR 11 "found_in_structure" ["self", "structure", "call"] (spFound P w K C CR)) :
    FnOk P w K mg base CX0 12 f fd ["self", "layout", "call"] (spCallS P w K C CR) := by
  refine F0.ok scRequest_call_sectors (fun vs H Q E h => ?_) (fun cdv A outer s0 H vs Q E hr h => ?_)
  · obtain ⟨x, lay, c, du, dd, ks, ss, l, R, S, F, W, cs, rfl, _⟩ := h
    rfl
  · obtain ⟨x, lay, c, du, dd, ks, ss, l, R, S, F, W, cs, rfl, rq, lo, lm, ca, q⟩ := h
    refine ⟨_, (pss_cons (ps_asg (pv 2) (pg_tup rfl (pgs_cons (pg_name (i := 3) scRequest_call_sectors.nd rfl (.inl rfl)) (pgs_cons (pg_name (i := 4) scRequest_call_sectors.nd rfl (.inl rfl)) pgs_nil))))
      (pss_cons (ps_if (PW.pt (pw_or (pt_cmp (pc_dnotin (hu_of hr) (pv 3) (pe_fld (pe_fld (pv 0) rfl) rfl))) (pw_or1 (pt_cmpR op_ne (pe_callB call_len_seq (by rfl) T0.len PySem.boot_len (pa_cons (pv 4) pa_nil)) (pe_callB call_len_seq (by rfl) T0.len PySem.boot_len (pa_cons (pe_ix ix_tup (pe_dget (hu_of hr) (pe_fld (pe_fld (pv 0) rfl) rfl) (pv 3) (fun _ _ => rfl)) pe_int (fun _ _ => rfl)) pa_nil)) (nomark _))))) (pss_one (ps_ret (pe_lst pa_nil))) pss_nil)
      (pss_cons (ps_set (i := 5) scRequest_call_sectors.nd rfl (.inl rfl) (pe_mt Qbsec hr (pv 0) (pa_cons (pe_tup (pa_cons pe_str (pa_cons (pv 3) pa_nil))) (pa_cons pe_int pa_nil))))
      (pss_cons (ps_for PassesOwn.never rfl (pi_list (pe_callB (cr_sortedTS) (by rfl) T0.sorted (by decide +kernel) (pa_cons (pv 1) pa_nil))) (pg_name (i := 6) scRequest_call_sectors.nd rfl (.inl rfl)) (pss_one (ps_if (pt_cmpR op_eq (pe_ix ix_tup (pe_dget (hu_of hr) (pe_fld (pe_fld (pv 0) rfl) rfl) (pv 6) (fun _ _ => rfl)) pe_int (fun _ _ => rfl)) (pv 3) (nomark _)) (pss_cons (ps_set (i := 7) scRequest_call_sectors.nd rfl (.inl rfl) (pe_mt Qfound hr (pv 0) (pa_cons (pv 6) (pa_cons (pv 2) pa_nil))))
      (pss_one (ps_if (PW.pt (pw_and (pt_cmpR op_notN (pv 7) pe_non (nomark _)) (pw_and1 (pt_cmpR op_lt (pe_callB call_len_seq (by rfl) T0.len PySem.boot_len (pa_cons (pv 7) pa_nil)) (pe_callB call_len_seq (by rfl) T0.len PySem.boot_len (pa_cons (pv 5) pa_nil)) (nomark _))))) (pss_one (ps_set (i := 5) scRequest_call_sectors.nd rfl (.inl rfl) (pv 7))) pss_nil))) pss_nil)))
      (pss_one (ps_ret (pv 5))))))), ?_⟩
    obtain ⟨dx, sx, ax, cl, dc, ex, wv, _⟩ := id rq.ob
    obtain ⟨qp, hc1, hc2, po, l10⟩ := id ca
    obtain ⟨⟨dx', dr, df, ds, dl, ob, hdr, hdf, hds⟩, rt, ft, st⟩ := id (wv.same (Rx.le _)).sv
    refine ⟨_, rfl, c, _, rfl, hc1, rfl, _, _, rfl, _, _, rfl, rfl, ?_⟩
    have none_ : ∀ p, H p = none → ¬ okC R W l → Q (.ref p) (upd H p (.lst [])) := fun p np no => by
      have rq1 := rq.same (Same.new (o := .lst []) np)
      refine q _ p (Rm.mono (Same.new np)) rq1 ?_
      unfold callS
      rw [if_neg no]
      exact Sec.nil (Rx.sql (SqL.of upd_same))
    refine ⟨_, rfl, _, rfl, x, CR, dx, _, _, rfl, ex, XQ.cl, XQ.n_before, fldQ_before _ _ _ _ _ _, sx, C, dx', _, _, rfl, ob, X.cl, X.nR, flds_r _ _ _ _, dr, (valG R l.r).map fun b => V.ref b.1, rfl, dgetR hdr, ?_⟩
    cases er : valG R l.r with
    | none =>
      refine ⟨_, rfl, ite2 (fun _ => ?_) fun z => absurd rfl z⟩
      refine ite2 (fun _ => ?_) fun z => absurd rfl z
      exact ⟨sz 0, fun p np => none_ p np fun z => by rw [okC, er] at z; cases z.1⟩
    | some b =>
      obtain ⟨qr, c'⟩ := b
      obtain ⟨⟨cc, rfl, fc⟩, l4, r1, r40, ⟨qf, ef⟩, lr, sh, wid⟩ := (wv.same (Rx.le _)).rel _ _ _ er
      refine ⟨_, rfl, ite2 (fun z => by cases z) fun _ => ?_⟩
      refine ⟨_, rfl, qp, _, rfl, .inr hc2, ?_⟩
      refine ⟨_, rfl, x, CR, dx, _, _, rfl, ex, XQ.cl, XQ.n_before, fldQ_before _ _ _ _ _ _, sx, C, dx', _, _, rfl, ob, X.cl, X.nR, flds_r _ _ _ _, _, rfl, dr, _, rfl, dget_n (.inl hdr) er, qr, _, 0, .ref cc, rfl, rfl, rt _ _ _ er, at_of (j := 0) rfl rfl, cc, _, rfl, .inr fc.sq, rfl, _, rfl, ?_⟩
      refine ite2 (fun e => ?_) (fun e => ?_)
      · refine ⟨sz 0, fun p np => none_ p np fun z => ?_⟩
        have z2 := z.2
        rw [← colsV_len] at z2
        rw [z2] at e
        simp at e
      · have okc : okC R W l := ⟨by rw [er]; rfl, by
          have e' : l.p.length = (colsV (W.cols l.r)).length := by
            by_cases y : l.p.length = (colsV (W.cols l.r)).length
            · exact y
            · refine absurd ?_ e
              have y2 : ¬ (V.int ((l.p.length : Nat) : Int) = V.int (((colsV (W.cols l.r)).length : Nat) : Int)) := fun z => y (by
                have := V.int.inj z
                omega)
              rw [decide_eq_false y2]
              rfl
          rw [e', colsV_len]⟩
        refine ⟨_, rfl, x, dx, _, rfl, ex, no_bucket_sectors _ _ _ _ _ _, _, rfl, sz 2, fun t nt => ?_⟩
        have s1 := Same.new (o := .tup [.str "relation", .str l.r]) nt
        have e1 := upd_same (H := H) (a := t) (o := .tup [.str "relation", .str l.r])
        generalize (upd H t (.tup [.str "relation", .str l.r])) = H1 at *
        refine ⟨x, t, du, dd, 0, .rel l.r, R, S, F, W, cs, rfl, rq.same s1, okc.1, SqT.of e1, (show 0 < 1 by decide), fun H2 p0 s2 rq2 sec2 => ?_⟩
        have sR : Same (Rm H du dd) (Rm H2 du dd) := (Rm.mono s1).trans s2
        have lo2 : LayOk K H2 lay S ks ss := ⟨sqt_same (Rx.le _) (sqt_same (rq.kx sR) (Rx.sqt lo.at_)), lo.pm, lo.so, lo.ln, lo.mem⟩
        refine ⟨_, rfl, lay, ks, rfl, lo2.at_, lo.ln, fun ys sp py sy nsp => ?_⟩
        have ey : ys = ss := sortedS_one sy lo.so (py.trans lo.pm.symm)
        subst ey
        have s3 := Same.new (o := .lst (ys.map V.str)) nsp
        have e3 := upd_same (H := H2) (a := sp) (o := .lst (ys.map V.str))
        generalize (upd H2 sp (.lst (ys.map V.str))) = H3 at *
        have rq3 := rq2.same s3
        have e3R : SqL K (Rx H3) sp (ys.map V.str) := by
          exact Rx.sql (SqL.of e3)
        have s13 : Same (Rm H du dd) (Rm H3 du dd) := sR.trans (Rm.mono s3)
        refine ⟨sp, rfl, ⟨_, SqL.of e3⟩, for_list (K := K) (a := sp) (xs := ys.map V.str) (fun i σ H4 => ∃ (y6 y7 : Option V) (p : Addr), σ = [some (.ref x), some (.ref lay), some (.ref c), some (.str l.r), some (.ref qp), some (.ref p), y6, y7] ∧ Same (Rm H3 du dd) (Rm H4 du dd) ∧ Rq P w K C CR H4 x du dd R F S W cs ∧ Sec K (Rx H4) p (bestS W l (ys.take i) (bsec W (.rel l.r) 0)))
          ⟨none, none, p0, rfl, Same.refl _, rq3, sec2.same (Rx.mono s3)⟩ (fun i σ H4 _ hP => ?_) (fun i y σ H4 hy hP => ?_) (fun σ H4 hP => ?_)⟩
        · obtain ⟨_, _, _, _, s4, _⟩ := hP
          exact (Rx.le _).seq ((rq3.kx s4).seq e3R)
        · obtain ⟨y6, y7, p, rfl, s4, rq4, sec4⟩ := hP
          rw [List.getElem?_map] at hy
          obtain ⟨n, en, rfl⟩ := Option.map_eq_some_iff.mp hy
          have mn : n ∈ ks := lo.pm.mem_iff.mp (List.mem_of_getElem? en)
          have hn := lo.mem n mn
          obtain ⟨⟨qs, cs0⟩, es⟩ := some_val hn
          obtain ⟨dx4, sx4, ax4, cl4, dc4, ex4, wv4, _⟩ := id rq4.ob
          have si := (wv4.same (Rx.le _)).str _ _ _ es
          obtain ⟨qa, ca', qb, cr, r', g1, hcc, g2, hcr⟩ := si.ex
          obtain ⟨⟨dx5, dr5, df5, ds5, dl5, ob5, hdr5, hdf5, hds5⟩, rt5, ft5, st5⟩ := id (wv4.same (Rx.le _)).sv
          have bs := bestS_snoc (W := W) (l := l) (b := bsec W (.rel l.r) 0) en
          refine ⟨_, rfl, x, CR, dx4, _, _, rfl, ex4, XQ.cl, XQ.n_before, fldQ_before _ _ _ _ _ _, sx4, C, dx5, _, _, rfl, ob5, X.cl, X.nS, flds_s _ _ _ _, _, rfl, ds5, _, rfl, dget_n (.inl hds5) g1, qa, _, 0, .str (W.srel n), rfl, rfl, st5 _ _ _ g1, at_of (j := 0) rfl rfl, _, rfl, rfl, _, rfl, ?_⟩
          by_cases er2 : W.srel n = l.r
          · refine ite2 (fun _ => ?_) (fun e => absurd (decide_eq_true (congrArg V.str er2)) e)
            have caR : CallAt K (Rx H4) c l := by
              have s14 := s13.trans s4
              exact ⟨qp, sqt_same (rq.kx s14) (Rx.sqt hc1), sqt_same (rq.kx s14) (Rx.sqt hc2), po, l10⟩
            refine ⟨_, rfl, x, dx4, _, rfl, ex4, no_found_in_structure _ _ _ _ _ _, _, rfl, _, rfl, x, c, du, dd, n, l, R, S, F, W, cs, rfl, rq4, hn, lm, caR.same (Rx.le _), by rw [er2]; exact okc.2, fun H5 v s5 rq5 rv => ?_⟩
            rw [if_pos er2] at bs
            have sec5 := sec4.same (rq4.kx s5)
            cases ei : inS W n l with
            | none =>
              rw [ei] at rv bs
              obtain rfl : v = .non := rv
              refine ⟨_, rfl, rfl, _, rfl, ite2 (fun z => by simp at z) fun _ => ite2 (fun z => by cases z) fun _ => ?_⟩
              exact ⟨_, _, p, rfl, s4.trans s5, rq5, by rw [bs]; exact sec5⟩
            | some b =>
              rw [ei] at rv bs
              obtain ⟨p', rfl, sec'⟩ := rv
              obtain ⟨xs', q1, l1⟩ := sec'.seq
              obtain ⟨xs5, q5, l5⟩ := sec5.seq
              refine ⟨_, rfl, rfl, _, rfl, ite2 (fun _ => ?_) fun z => absurd (by rw [decide_eq_false (fun z => nomatch z)]; rfl) z⟩
              refine ⟨_, rfl, p', _, rfl, .inl ((Rx.le _).seq q1), _, rfl, p, _, rfl, .inl ((Rx.le _).seq q5), _, _, rfl, rfl, _, rfl, ?_⟩
              rw [l1, l5]
              by_cases lt : b.length < (bestS W l (ys.take i) (bsec W (.rel l.r) 0)).length
              · refine ite2 (fun _ => ?_) fun z => absurd (decide_eq_true (by omega)) z
                exact ⟨_, rfl, _, _, p', rfl, s4.trans s5, rq5, by rw [bs]; show Sec K _ _ (if _ then _ else _); rw [if_pos lt]; exact sec'⟩
              · refine ite2 (fun z => absurd (of_decide_eq_true z) (by omega)) fun _ => ?_
                exact ⟨_, _, p, rfl, s4.trans s5, rq5, by rw [bs]; show Sec K _ _ (if _ then _ else _); rw [if_neg lt]; exact sec5⟩
          · refine ite2 (fun e => absurd (V.str.inj (of_decide_eq_true e)) er2) (fun _ => ?_)
            exact ⟨_, _, p, rfl, s4, rq4, by rw [bs, if_neg er2]; exact sec4⟩
        · obtain ⟨y6, y7, p, rfl, s4, rq4, sec4⟩ := hP
          rw [List.length_map, List.take_length] at sec4
          refine ⟨_, rfl, q _ _ (s13.trans s4) rq4 ?_⟩
          unfold callS
          rw [if_pos okc]
          exact sec4
end
end K1
namespace K1
open PySem PySem.Spec PyProof.Rows L2 Ow Tlz
/-! each thing once, in the order in which it comes first -/
section
variable {β : Type} [DecidableEq β]
def addB (acc : List (Addr × β)) (t : Addr × β) : List (Addr × β) := if t.2 ∈ acc.map (·.2) then acc else acc ++ [t]
def addQ (acc : List β) (b : β) : List β := if b ∈ acc then acc else acc ++ [b]
def ddq (bs : List β) : List β := bs.foldl addQ []
theorem addB_map (acc : List (Addr × β)) (t : Addr × β) : (addB acc t).map (·.2) = addQ (acc.map (·.2)) t.2 := by
  unfold addB addQ
  split
  · rfl
  · rw [List.map_append]
    rfl
theorem addB_mem {acc : List (Addr × β)} {t u : Addr × β} (h : u ∈ addB acc t) : u ∈ acc ∨ u = t := by
  unfold addB at h
  split at h
  · exact .inl h
  · rcases List.mem_append.mp h with h | h
    · exact .inl h
    · exact .inr (by simpa using h)
theorem addB_len (acc : List (Addr × β)) (t : Addr × β) : (addB acc t).length ≤ acc.length + 1 := by
  unfold addB
  split
  · omega
  · rw [List.length_append]
    exact Nat.le_refl _
theorem ddq_snoc (bs : List β) (b : β) : ddq (bs ++ [b]) = addQ (ddq bs) b := by
  unfold ddq
  rw [List.foldl_append]
  rfl
theorem ddq_len (bs : List β) : (ddq bs).length ≤ bs.length := by
  have : ∀ (bs acc : List β), (bs.foldl addQ acc).length ≤ acc.length + bs.length := by
    intro bs
    induction bs with
    | nil => intro acc; exact Nat.le_refl _
    | cons b r ih =>
      intro acc
      have h1 := ih (addQ acc b)
      have h2 : (addQ acc b).length ≤ acc.length + 1 := by
        unfold addQ
        split
        · omega
        · rw [List.length_append]
          exact Nat.le_refl _
      rw [List.foldl_cons, List.length_cons]
      omega
  have h := this bs []
  unfold ddq
  simpa using h
theorem addQ_mem {acc : List β} {b x : β} : x ∈ addQ acc b ↔ x ∈ acc ∨ x = b := by
  unfold addQ
  split
  · rename_i h
    refine ⟨.inl, fun z => ?_⟩
    rcases z with z | z
    · exact z
    · rw [z]
      exact h
  · rw [List.mem_append, List.mem_singleton]
theorem ddq_mem {bs : List β} {x : β} : x ∈ ddq bs ↔ x ∈ bs := by
  have : ∀ (bs acc : List β), x ∈ bs.foldl addQ acc ↔ x ∈ acc ∨ x ∈ bs := by
    intro bs
    induction bs with
    | nil => intro acc; simp
    | cons b r ih =>
      intro acc
      rw [List.foldl_cons, ih, addQ_mem, List.mem_cons]
      constructor
      · rintro ((h | h) | h)
        · exact .inl h
        · exact .inr (.inl h)
        · exact .inr (.inr h)
      · rintro (h | h | h)
        · exact .inl (.inl h)
        · exact .inl (.inr h)
        · exact .inr h
  have h := this bs []
  unfold ddq
  rw [h]
  simp
theorem ddq_nodup (bs : List β) : (ddq bs).Nodup := by
  have : ∀ (bs acc : List β), acc.Nodup → (bs.foldl addQ acc).Nodup := by
    intro bs
    induction bs with
    | nil => intro acc h; exact h
    | cons b r ih =>
      intro acc h
      rw [List.foldl_cons]
      refine ih _ ?_
      unfold addQ
      split
      · exact h
      · rename_i z
        refine List.nodup_append.mpr ⟨h, by simp, fun x m y n e => z ?_⟩
        have : y = b := by simpa using n
        rw [← this, ← e]
        exact m
  exact this bs [] List.nodup_nil
/-- behind what is there, those that are not yet there -/
theorem ddq_app (bs cs : List β) (h : cs.Nodup) : ddq (bs ++ cs) = ddq bs ++ cs.filter fun c => decide (c ∉ ddq bs) := by
  have : ∀ (cs acc : List β), cs.Nodup → cs.foldl addQ acc = acc ++ cs.filter fun c => decide (c ∉ acc) := by
    intro cs
    induction cs with
    | nil => intro acc _; simp
    | cons c r ih =>
      intro acc h
      obtain ⟨h1, h2⟩ := List.nodup_cons.mp h
      rw [List.foldl_cons, ih _ h2]
      unfold addQ
      by_cases z : c ∈ acc
      · rw [if_pos z, List.filter_cons_of_neg (by simpa using z)]
      · rw [if_neg z, List.filter_cons_of_pos (by simpa using z), List.append_assoc, List.singleton_append]
        have e : (r.filter fun x => decide (x ∉ acc ++ [c])) = r.filter fun x => decide (x ∉ acc) := by
          refine List.filter_congr fun x m => ?_
          have n : x ≠ c := fun e => h1 (by rw [← e]; exact m)
          have : (x ∉ acc ++ [c]) ↔ x ∉ acc := by simp [n]
          exact decide_eq_decide.mpr this
        rw [e]
  have e := this cs (ddq bs) h
  unfold ddq at e ⊢
  rw [List.foldl_append]
  exact e
def ents (kf : β → NestedKey) (acc : List (Addr × β)) : List NE := acc.map fun t => (kf t.2, t.1, V.bl true)
theorem ents_put {kf : β → NestedKey} {acc : List (Addr × β)} {a : Addr} {b : β} (inj : ∀ t ∈ acc, kf t.2 = kf b → t.2 = b) : putN (ents kf acc) (kf b) a (.bl true) = ents kf (addB acc (a, b)) := by
  by_cases z : b ∈ acc.map (·.2)
  · have e : (addB acc (a, b)) = acc := by
      unfold addB
      exact if_pos z
    rw [e]
    unfold putN
    split
    · unfold ents
      rw [List.map_map]
      refine List.map_congr_left fun t _ => ?_
      show (if kf t.2 = kf b then (kf t.2, t.1, V.bl true) else (kf t.2, t.1, V.bl true)) = _
      split <;> rfl
    · rename_i n
      refine absurd ?_ n
      obtain ⟨t, mt, et⟩ := List.mem_map.mp z
      cases f : atN (ents kf acc) (kf b) with
      | some y => rfl
      | none => exact absurd (by show kf t.2 = kf b; rw [et]) (atN_none f _ (List.mem_map.mpr ⟨t, mt, rfl⟩))
  · have e : (addB acc (a, b)) = acc ++ [(a, b)] := by
      unfold addB
      exact if_neg z
    rw [e]
    have n : atN (ents kf acc) (kf b) = none := by
      cases f : atN (ents kf acc) (kf b) with
      | none => rfl
      | some y =>
        obtain ⟨c, m⟩ := atN_mem f
        obtain ⟨t, mt, et⟩ := List.mem_map.mp m
        have : kf t.2 = kf b := congrArg (·.1) et
        exact absurd (List.mem_map.mpr ⟨t, mt, inj t mt this⟩) z
    rw [putN_new n]
    unfold ents
    rw [List.map_append]
    rfl
end
/-- turns with a place and a heap -/
theorem walk_W {J : L2.It} {n : Nat} {G : Hp → Prop} {Y : Nat → Hp → V → Hp → Prop} (w : Walk J n G Y) {B : (Hp → Prop) → V → Hp → Prop} {H0 : Hp} {Qd : Hp → Prop} (Pv : Nat → Hp → Prop) (h0 : Pv 0 H0) (hG : ∀ i H, i ≤ n → Pv i H → G H)
    (hs : ∀ i x H H', i < n → Pv i H → Y i H x H' → B (Pv (i + 1)) x H') (hd : ∀ H, Pv n H → Qd H) :
    ∃ W : Nat → Nat → Hp → Prop, (∃ m, W 0 m H0) ∧ ∀ i m H, W i m H → (J.stop i H ∧ Qd H) ∨ (J.go i H ∧ ∃ Nx : Hp → Prop, (∀ H', Nx H' → ∃ m', m' < m ∧ W (i + 1) m' H') ∧ ∀ x H', J.yld i H x H' → B Nx x H') := by
  refine ⟨fun i m H => m = n - i ∧ i ≤ n ∧ Pv i H, ⟨n, by simp, Nat.zero_le _, h0⟩, ?_⟩
  rintro i m H ⟨rfl, hi, p⟩
  have q := hG i H hi p
  by_cases hlt : i < n
  · exact .inr ⟨w.goes i H hlt q, Pv (i + 1), fun H' p' => ⟨n - (i + 1), by omega, rfl, hlt, p'⟩, fun x H' y => hs i x H H' hlt p (w.yields i H x H' hlt q y)⟩
  · have e : i = n := by omega
    subst e
    exact .inl ⟨w.stops H q, hd H p⟩
end K1
namespace K1
open PySem PySem.Spec PyProof.Rows L2 Ow Tlz
abbrev sRequest_sectors_read : Stmt := inClass (topS 28) 5
abbrev NRequest_sectors_read : List Str := ["self", "layout", "call", "sector"]
theorem scRequest_sectors_read : FnScope NRequest_sectors_read ["self", "layout"] (defScope sRequest_sectors_read) := ⟨rfl, rfl, rfl, by decide +kernel, rfl, by decide +kernel, by decide +kernel⟩
def encS (b : Sct) : PyData := .tuple [.tuple [.str (nmW b.1), .str (nmN b.1)], .int b.2]
def srtB (bs : List Sct) : List Sct := bs.mergeSort (PySem.W.dataLe false encS)
theorem SecAt.dp {K : PySem.W.Frag} {H : Hp} {a : Addr} {b : Sct} (h : SecAt K H a b) : Dp K H (.ref a) (encS b) := by
  obtain ⟨t, h1, h2⟩ := h
  exact .tup h1 (.cons (.tup h2 (.cons (.str _) (.cons (.str _) .nil))) (.cons (.int _) .nil))
theorem encS_dep (b : Sct) : (encS b).depth ≤ 40 := by
  unfold encS
  simp [PyData.depth, PyData.depthAll]
theorem secs_in {K : PySem.W.Frag} {H : Hp} : ∀ {ts : List (Addr × Sct)}, (∀ t ∈ ts, SecAt K H t.1 t.2) → DpAll K H (ts.map fun t => V.ref t.1) ((ts.map (·.2)).map encS)
  | [], _ => .nil
  | t :: r, h => .cons (h t List.mem_cons_self).dp (secs_in fun u m => h u (List.mem_cons_of_mem _ m))
theorem secs_srt {K : PySem.W.Frag} {H : Hp} {ts : List (Addr × Sct)} (h : ∀ t ∈ ts, SecAt K H t.1 t.2) : SrtIn encS K H (ts.map fun t => V.ref t.1) (ts.map (·.2)) :=
  ⟨secs_in h, PySem.W.AllAlike.of fun b b' => by unfold encS; simp [PySem.W.alike, PySem.W.alikeAll], PySem.W.Sortable.tuples fun b => ⟨_, _, rfl⟩, fun b _ => encS_dep b⟩
theorem secs_out {ts : List (Addr × Sct)} {ys : List V} (h : SrtOut encS (ts.map fun t => V.ref t.1) (ts.map (·.2)) ys) : ∃ us : List (Addr × Sct), ys = us.map (fun t => V.ref t.1) ∧ us.map (·.2) = srtB (ts.map (·.2)) ∧ ∀ u ∈ us, u ∈ ts := by
  unfold SrtOut at h
  show ∃ us : List (Addr × Sct), ys = us.map (fun t => V.ref t.1) ∧ us.map (·.2) = (ts.map (·.2)).mergeSort (PySem.W.dataLe false encS) ∧ ∀ u ∈ us, u ∈ ts
  generalize (ts.map (·.2)).mergeSort (PySem.W.dataLe false encS) = zs at h
  induction h with
  | nil => exact ⟨[], rfl, rfl, fun u m => nomatch m⟩
  | cons hd _ ih =>
    obtain ⟨us, e1, e2, e3⟩ := ih
    obtain ⟨i, h1, h2⟩ := hd
    rw [List.getElem?_map] at h1 h2
    obtain ⟨t, et, rfl⟩ := Option.map_eq_some_iff.mp h1
    rw [et] at h2
    cases h2
    refine ⟨t :: us, by rw [e1]; rfl, by rw [← e2]; rfl, fun u m => ?_⟩
    rcases List.mem_cons.mp m with z | z
    · rw [z]
      exact List.mem_of_getElem? et
    · exact e3 u z
theorem bestS_len {W : Wd} {l : Cl} : ∀ (ss : List Str) (b : List Sct), (bestS W l ss b).length ≤ b.length
  | [], b => Nat.le_refl _
  | s :: r, b => by
    have ih := fun b => bestS_len (W := W) (l := l) r b
    unfold bestS at ih ⊢
    rw [List.foldl_cons]
    refine Nat.le_trans (ih _) ?_
    split
    · split
      · exact Nat.le_refl _
      · split
        · omega
        · exact Nat.le_refl _
    · exact Nat.le_refl _
theorem callS_len {K : PySem.W.Frag} {C : Addr} {H : Hp} {x : Addr} {R S : Tb} {F : Fb} {W : Wd} (wv : Wv K C H x R F S W) (ss : List Str) (l : Cl) : (callS R W ss l).length ≤ 90 := by
  unfold callS
  split
  · rename_i ok
    refine Nat.le_trans (bestS_len _ _) ?_
    unfold bsec
    rw [List.length_map, List.length_range]
    have := wv.cnt (m := .rel l.r) ok.1 ((cntN W (.rel l.r)).getD 0 0) (List.mem_cons_self)
    omega
  · exact Nat.zero_le _
theorem flat_le {α β : Type} (as : List α) (f : α → List β) (n : Nat) (h : ∀ a ∈ as, (f a).length ≤ n) : (as.flatMap f).length ≤ as.length * n := by
  induction as with
  | nil => simp
  | cons e r ih =>
    rw [List.flatMap_cons, List.length_append, List.length_cons, Nat.succ_mul]
    have h1 := h e List.mem_cons_self
    have h2 := ih fun a m => h a (List.mem_cons_of_mem _ m)
    omega
theorem Rm.over {H H' : Hp} {d e D : Addr} {u : HO} (s : Same (Rm H d e) (Rm H' d e)) (n : H D = none) : Same (Rm H d e) (Rm (upd H' D u) d e) := fun a o h => by
  have h1 := s a o h
  have h2 := Rm.le _ _ _ _ _ h
  have aD : a ≠ D := fun z => by rw [z, n] at h2; cases h2
  unfold Rm at h1 ⊢
  split at h1
  · cases h1
  · rename_i z
    rw [if_neg z, upd_ne aD]
    exact h1
theorem Rm.free {H H' : Hp} {d e p : Addr} {od oe : HO} (s : Same (Rm H d e) (Rm H' d e)) (hd : H' d = some od) (he : H' e = some oe) (n : H' p = none) : H p = none := by
  cases z : H p with
  | none => rfl
  | some o =>
    by_cases y : p = d ∨ p = e
    · rcases y with rfl | rfl
      · rw [hd] at n
        cases n
      · rw [he] at n
        cases n
    · have h1 : Rm H d e p = some o := by
        unfold Rm
        rw [if_neg y]
        exact z
      have := Rm.le _ _ _ _ _ (s _ _ h1)
      rw [n] at this
      cases this
def readS (R : Tb) (W : Wd) (ss : List Str) (cs : List Cl) : List Sct := ddq (cs.flatMap (callS R W ss))
def spSRead (P : Program) (w : World) (K : PySem.W.Frag) (C CR : Addr) : Sp := fun vs H Q _ => ∃ (x lay du dd : Addr) (ks ss : List Str) (R S : Tb) (F : Fb) (W : Wd) (cs : List Cl), vs = [.ref x, .ref lay] ∧
  Rq P w K C CR H x du dd R F S W cs ∧ LayOk K H lay S ks ss ∧
  ∀ H' p, Same (Rm H du dd) (Rm H' du dd) → Rq P w K C CR H' x du dd R F S W cs → H p = none → Sec K (Rx H') p (srtB (readS R W ss cs)) → Q (.ref p) H'
section
variable {P : Program} {w : World} {K : PySem.W.Frag} {mg : Str → Option Value} {base : Heap} {C CR : Addr}
theorem ok_sread {f : Addr} {fd : FuncData} (F0 : Fun K "sectors_read" "Request.sectors_read" sRequest_sectors_read f fd) (T0 : Bl mg) (XQ : TxtQ K mg CR)
    (Qcall : Kmt P w K mg base CR 12 "call_sectors" ["self", "layout", "call"] (spCallS P w K C CR)) :
    FnOk P w K mg base CX0 13 f fd ["self", "layout"] (spSRead P w K C CR) := by
  refine F0.ok scRequest_sectors_read (fun vs H Q E h => ?_) (fun cdv A outer s0 H vs Q E hr h => ?_)
  · obtain ⟨x, lay, du, dd, ks, ss, R, S, F, W, cs, rfl, _⟩ := h
    rfl
  · obtain ⟨x, lay, du, dd, ks, ss, R, S, F, W, cs, rfl, rq, lo, q⟩ := h
    refine ⟨_, (pss_one (ps_ret (pe_callB (cr_sortedDn (enc := encS) rfl (hu64 hr)) (by rfl) T0.sorted (by decide +kernel) (pa_cons (pe_dcN2 (own := [("call", 2), ("sector", 3)]) (vs1 := [3]) (g := gName 2) (g1 := gName 3) rfl (hu64 hr) scRequest_sectors_read.nd (pi_list (pe_fld (pv 0) rfl))
      (blkOk_by (own := [("call", 2), ("sector", 3)]) (N := NRequest_sectors_read) (sc := defScope sRequest_sectors_read) (by decide +kernel)) (by decide) (fun _ _ _ _ _ => pg_name (i := 2) scRequest_sectors_read.nd rfl (Or.inl rfl)) (fun _ _ _ _ _ => pi_list_K (K := K) rfl (pe_mt Qcall hr (pv 0) (pa_cons (pv 1) (pa_cons (pv 2) pa_nil))))
      (fun _ _ _ _ _ => pg_name (i := 3) scRequest_sectors_read.nd rfl (Or.inl rfl)) (fun _ _ _ _ _ => pv 3) (fun _ _ _ _ _ => pe_bl)) pa_nil)))), ?_⟩
    obtain ⟨dx, sx, ax, cl, dc, ex, wv, ts, h1, h2, h3⟩ := id rq.ob
    obtain ⟨ou0, xu0, eu0, _⟩ := id rq.us
    obtain ⟨od0, xd0, ed0, _⟩ := id rq.rd
    have lts : ts.length = cs.length := by rw [← h2, List.length_map]
    have lc := rq.ln.2.2
    refine ⟨_, rfl, x, CR, dx, _, _, rfl, ex, XQ.cl, XQ.n_calls, fldQ_calls _ _ _ _ _ _, cl, rfl, ⟨_, (Rx.le _).seq h1⟩, fun D o0 nD no0 => ?_⟩
    have nDu : D ≠ du := fun z => by rw [z, eu0] at nD; cases nD
    have nDd : D ≠ dd := fun z => by rw [z, ed0] at nD; cases nD
    refine walk_W (walk_list (K := K) (a := cl) (xs := ts.map fun t => V.ref t.1)) (fun i H' => Same (Rm H du dd) (Rm H' du dd) ∧ Rq P w K C CR H' x du dd R F S W cs ∧ ∃ (o : Obj) (us : List (Addr × Sct)), H' D = some (exO D o) ∧ NOk P w D o (ents skey us) ∧
      us.map (·.2) = ddq ((cs.take i).flatMap (callS R W ss)) ∧ ∀ t ∈ us, SecAt K (Rx H') t.1 t.2) ⟨Rm.mono (Same.new nD), rq.same (Same.new nD), o0, [], upd_same, no0, rfl, fun t m => nomatch m⟩ (fun i H' _ hP => ?_) (fun i y H1 H' hi hP yy => ?_) fun H' hP => ?_
    · exact (Rx.le _).seq ((rq.kx hP.1).seq h1)
    · obtain ⟨rfl, ey⟩ := yy
      obtain ⟨s1, rq1, o1, us1, eD1, no1, em1, sa1⟩ := hP
      rw [List.getElem?_map] at ey
      obtain ⟨t, et, rfl⟩ := Option.map_eq_some_iff.mp ey
      have ec : cs[i]? = some t.2 := by rw [← h2, List.getElem?_map, et]; rfl
      have lm : t.2 ∈ cs := List.mem_of_getElem? ec
      have il : i < cs.length := (List.getElem?_eq_some_iff.mp ec).1
      have caR := (h3 t (List.mem_of_getElem? et)).same (rq.kx s1)
      obtain ⟨dx1, sx1, ax1, cl1, dc1, ex1, wv1, _⟩ := id rq1.ob
      have lo1 : LayOk K H' lay S ks ss := ⟨sqt_same (Rx.le _) (sqt_same (rq.kx s1) (Rx.sqt lo.at_)), lo.pm, lo.so, lo.ln, lo.mem⟩
      refine ⟨rfl, _, rfl, x, dx1, _, rfl, ex1, no_call_sectors _ _ _ _ _ _, _, rfl, _, rfl, x, lay, t.1, du, dd, ks, ss, t.2, R, S, F, W, cs, rfl, rq1, lo1, lm, caR.same (Rx.le _), fun H4 p s4 rq4 sec4 => ?_⟩
      obtain ⟨tz, z1, z2, z3⟩ := sec4
      have eD4 : H4 D = some (exO D o1) := Rm.le _ _ _ _ _ (s4 _ _ (by unfold Rm; rw [if_neg (by rintro (z | z); exact nDu z; exact nDd z)]; exact eD1))
      refine ⟨p, rfl, ⟨_, (Rx.le _).seq z1⟩, ?_⟩
      refine walk_W (walk_list (K := K) (a := p) (xs := tz.map fun t => V.ref t.1)) (fun j H5 => Same (Rm H du dd) (Rm H5 du dd) ∧ Same (Rx H4) (Rx H5) ∧ Rq P w K C CR H5 x du dd R F S W cs ∧ ∃ (o : Obj) (us : List (Addr × Sct)), H5 D = some (exO D o) ∧ NOk P w D o (ents skey us) ∧
        us.map (·.2) = ddq ((cs.take i).flatMap (callS R W ss) ++ (tz.map (·.2)).take j) ∧ ∀ t ∈ us, SecAt K (Rx H5) t.1 t.2) ⟨s1.trans s4, Same.refl _, rq4, o1, us1, eD4, no1, by rw [em1, List.take_zero, List.append_nil], fun t m => (sa1 t m).same (rq1.kx s4)⟩ (fun j H5 _ hP => ?_) (fun j y H5 H6 hj hP yy => ?_) fun H5 hP => ?_
      · exact (Rx.le _).seq (hP.2.1.seq z1)
      · obtain ⟨rfl, ey5⟩ := yy
        obtain ⟨s5, r5, rq5, o5, us5, eD5, no5, em5, sa5⟩ := hP
        rw [List.getElem?_map] at ey5
        obtain ⟨u, eu, rfl⟩ := Option.map_eq_some_iff.mp ey5
        have su := (z3 u (List.mem_of_getElem? eu)).same r5
        have lz : (tz.map (·.2)).length ≤ 90 := by rw [z2]; exact callS_len wv ss t.2
        have l5 : us5.length ≤ 90090 := by
          have e := congrArg List.length em5
          rw [List.length_map] at e
          have a1 := ddq_len ((cs.take i).flatMap (callS R W ss) ++ (tz.map (·.2)).take j)
          rw [List.length_append, List.length_take] at a1
          have a2 := flat_le (cs.take i) (callS R W ss) 90 fun a _ => callS_len wv ss a
          rw [List.length_take] at a2
          have a3 : min i cs.length * 90 ≤ 1000 * 90 := Nat.mul_le_mul_right _ (by omega)
          omega
        refine ⟨rfl, _, rfl, u.1, skey u.2, o5, ents skey us5, rfl, NkA.same (fun a xs => sqt_same (Rx.le _)) su.nka, ⟨eD5, no5, fun e me => ?_⟩, ?_, fun o' no' => ?_⟩
        · obtain ⟨v, mv, rfl⟩ := List.mem_map.mp me
          exact NkA.same (fun a xs => sqt_same (Rx.le _)) (sa5 v mv).nka
        · unfold ents
          rw [List.length_map]
          exact Nat.lt_of_le_of_lt l5 (by decide)
        · rw [ents_put fun v mv e => skey_inj e] at no'
          have eR : Rx (upd H6 D (exO D o')) = Rx H6 := Rx.put (.inr ⟨_, eD5⟩)
          refine ⟨Rm.over s5 nD, by rw [eR]; exact r5, rq5.over eD5 nDu nDd, o', _, upd_same, no', ?_, fun v mv => ?_⟩
          · have e2 : (tz.map (·.2))[j]? = some u.2 := by rw [List.getElem?_map, eu]; rfl
            rw [addB_map, em5, take_snoc' e2, ← List.append_assoc, ddq_snoc]
          · rw [eR]
            rcases addB_mem mv with mv | rfl
            · exact sa5 v mv
            · exact su
      · obtain ⟨s5, r5, rq5, o5, us5, eD5, no5, em5, sa5⟩ := hP
        refine ⟨s5, rq5, o5, us5, eD5, no5, ?_, sa5⟩
        rw [em5, List.length_map]
        have e1 : (tz.map (·.2)).take tz.length = callS R W ss t.2 := by
          rw [← z2]
          exact List.take_of_length_le (by rw [List.length_map]; exact Nat.le_refl _)
        rw [e1, take_snoc' ec, List.flatMap_append]
        simp
    · obtain ⟨s5, rq5, o5, us5, eD5, no5, em5, sa5⟩ := hP
      have em : us5.map (·.2) = readS R W ss cs := by
        rw [em5, List.length_map, lts, List.take_length]
        rfl
      have el : (ents skey us5).map (fun x => V.ref x.2.1) = us5.map fun t => V.ref t.1 := by
        unfold ents
        rw [List.map_map]
        rfl
      have si : SrtIn encS K H' (us5.map fun t => V.ref t.1) (us5.map (·.2)) := secs_srt fun t m => (sa5 t m).same (Rx.le _)
      rw [← el] at si
      refine ⟨D, o5, _, us5.map (fun t : Addr × Sct => t.2), rfl, eD5, no5, si, fun ys p out np => ?_⟩
      rw [el] at out
      obtain ⟨vs, e1, e2, e3⟩ := secs_out out
      obtain ⟨ou5, _, eu5, _⟩ := id rq5.us
      obtain ⟨od5, _, ed5, _⟩ := id rq5.rd
      refine q _ p (s5.trans (Rm.mono (Same.new np))) (rq5.same (Same.new np)) (Rm.free s5 eu5 ed5 np) ⟨vs, ?_, by rw [e2, em], fun t m => (sa5 t (e3 t m)).same (Rx.mono (Same.new np))⟩
      rw [← e1]
      exact Rx.sql (SqL.of upd_same)
end
end K1
namespace K1
open PySem PySem.Spec PyProof.Rows L2 Ow Tlz
abbrev sRequest_init : Stmt := inClass (topS 28) 0
abbrev NRequest_init : List Str := ["self", "before", "after", "calls", "call"]
theorem scRequest_init : FnScope NRequest_init ["self", "before", "after", "calls"] (defScope sRequest_init) := ⟨rfl, rfl, rfl, by decide +kernel, rfl, by decide +kernel, by decide +kernel⟩
def spQInit (P : Program) (w : World) (K : PySem.W.Frag) (C CR : Addr) : Sp := fun vs H Q _ => ∃ (x sx ax ca dx : Addr) (H0 : Hp) (ts : List (Addr × Cl)) (R S : Tb) (F : Fb) (W : Wd), vs = [.ref x, .ref sx, .ref ax, .ref ca] ∧ H x = some (.ins CR dx []) ∧ Same H0 H ∧ H0 x = none ∧
  Wv K C H0 sx R F S W ∧ SqL K H0 ca (ts.map fun t => V.ref t.1) ∧ (∀ t ∈ ts, CallAt K H0 t.1 t.2) ∧ ts.length ≤ 1000 ∧ R.length ≤ 500 ∧ S.length ≤ 500 ∧
  ∀ H' du dd, Same H0 H' → H0 du = none → H0 dd = none → Rq P w K C CR H' x du dd R F S W (ddq (ts.map (·.2))) → Q .non H'
theorem CallAt.rx {K : PySem.W.Frag} {H H' : Hp} {c : Addr} {l : Cl} (h : CallAt K H c l) (s : Same H H') : CallAt K (Rx H') c l := by
  obtain ⟨q, h1, h2, h3⟩ := h
  exact ⟨q, Rx.sqt (sqt_same s h1), Rx.sqt (sqt_same s h2), h3⟩
theorem Wv.rx {K : PySem.W.Frag} {C : Addr} {H H' : Hp} {x : Addr} {R S : Tb} {F : Fb} {W : Wd} (h : Wv K C H x R F S W) (s : Same H H') : Wv K C (Rx H') x R F S W := by
  have h := h.same s
  obtain ⟨⟨⟨dx, dr, df, ds, dl, e1, e2, e3, e4⟩, rt, ft, st⟩, rel, str⟩ := h
  refine ⟨⟨⟨dx, dr, df, ds, dl, Rx.of e1 (fun f z => nomatch z), Rx.of e2 (fun f z => nomatch z), Rx.of e3 (fun f z => nomatch z), Rx.of e4 (fun f z => nomatch z)⟩, fun n q c e => Rx.sqt (rt n q c e), fun n q rs e => ⟨Rx.of (ft n q rs e).1 (fun f z => nomatch z), fun t m => ?_⟩, fun n q c e => Rx.sqt (st n q c e)⟩, fun n q c e => ?_, fun n q c e => ?_⟩
  · obtain ⟨a1, a2⟩ := (ft n q rs e).2 t m
    exact ⟨Rx.sqt a1, a2⟩
  · obtain ⟨⟨cc, e1, o, e2, e3⟩, r⟩ := rel n q c e
    exact ⟨⟨cc, e1, o, Rx.of e2 (fun f z => nomatch z), e3⟩, r⟩
  · obtain ⟨⟨q, cc, q', cr, r, g1, g2, g3, o, g4, g5⟩, a1, a2, a3, a4, a5, a6, a7, a8⟩ := str n q c e
    exact ⟨⟨q, cc, q', cr, r, g1, Rx.sqt g2, g3, o, Rx.of g4 (fun f z => nomatch z), g5⟩, a1, a2, a3, a4, a5, a6, a7, a8⟩
theorem two_keep {H : Hp} {d x : Addr} {u v : HO} (nd : H d = none) : ∀ (a : Addr) (o : HO), a ≠ x → H a = some o → upd (upd H d u) x v a = some o := fun a o n h => by
  rw [upd_ne n, upd_ne (fun z => by rw [z, nd] at h; cases h)]
  exact h
section
variable {P : Program} {w : World} {K : PySem.W.Frag} {mg : Str → Option Value} {base : Heap} {C CR : Addr}
theorem ok_qinit {f : Addr} {fd : FuncData} (F0 : Fun K "__init__" "Request.__init__" sRequest_init f fd) (T0 : Bl mg) (XQ : TxtQ K mg CR) :
    FnOk P w K mg base CX0 1 f fd ["self", "before", "after", "calls"] (spQInit P w K C CR) := by
  refine F0.ok scRequest_init (fun vs H Q E h => ?_) (fun cdv A outer s0 H vs Q E hr h => ?_)
  · obtain ⟨x, sx, ax, ca, dx, H0, ts, R, S, F, W, rfl, _⟩ := h
    rfl
  · obtain ⟨x, sx, ax, ca, dx, H0, ts, R, S, F, W, rfl, hx, s00, n0, wv, cq, ct, l1, l2, l3, q⟩ := h
    refine ⟨_, (pss_cons (ps_fld (pv 0) (pv 1) rfl)
      (pss_cons (ps_fld (pv 0) (pv 2) rfl)
      (pss_cons (ps_fld (pv 0) (pe_callTy (call_listN rfl) (by rfl) T0.list (by decide +kernel) (pa_cons (pe_dcN (own := [("call", 4)]) (g := gName 4) (tt := tYes) rfl (hu64 hr) scRequest_init.nd (pi_list (pv 3)) (blkOk_by (own := [("call", 4)]) (N := NRequest_init) (sc := defScope sRequest_init) (by decide +kernel)) (fun _ _ _ _ _ => pg_name (i := 4) scRequest_init.nd rfl (Or.inl rfl)) (fun _ _ _ _ _ => pts_nil) (fun _ _ _ _ _ => pv 4) (fun _ _ _ _ _ => pe_bl)) pa_nil)) rfl)
      (pss_cons (ps_fld (pv 0) pe_dnewN rfl)
      (pss_cons (ps_fld (pv 0) pe_dnewN rfl)
      (pss_one (ps_fld (pv 0) pe_dnewN rfl))))))), ?_⟩
    have lf : ∀ (f : Str) (v : V) (fs : List (Str × V)) (n : Nat), fs.length ≤ n → (putF f v fs).length ≤ n + 1 := fun f v fs n h => by
      have := putF_len f v fs
      omega
    have p1 := lf "before" (.ref sx) [] 0 (Nat.le_refl _)
    have p2 := lf "after" (.ref ax) _ 1 p1
    refine ⟨_, rfl, _, rfl, x, CR, dx, [], rfl, hx, XQ.cl, XQ.n_before, (by show 0 < 1000; decide), ?_⟩
    refine ⟨_, rfl, _, rfl, x, CR, dx, _, rfl, upd_same, XQ.cl, XQ.n_after, (by omega), ?_⟩
    have s2 : Same H0 (upd (upd H x (.ins CR dx (putF "before" (.ref sx) []))) x (.ins CR dx (putF "after" (.ref ax) (putF "before" (.ref sx) [])))) := Same.over (Same.over s00 n0) n0
    have x2 := upd_same (H := upd H x (.ins CR dx (putF "before" (.ref sx) []))) (a := x) (o := .ins CR dx (putF "after" (.ref ax) (putF "before" (.ref sx) [])))
    generalize (upd (upd H x (.ins CR dx (putF "before" (.ref sx) []))) x (.ins CR dx (putF "after" (.ref ax) (putF "before" (.ref sx) [])))) = H2 at *
    refine ⟨_, rfl, ca, rfl, ⟨_, s2.seq cq⟩, fun D o0 nD no0 => ?_⟩
    have nD0 := s2.free nD
    refine walk_W (walk_list (K := K) (a := ca) (xs := ts.map fun t => V.ref t.1)) (fun i H' => Same H0 H' ∧ H' x = H2 x ∧ ∃ (o : Obj) (us : List (Addr × Cl)), H' D = some (exO D o) ∧ NOk P w D o (ents ckey us) ∧ us.map (·.2) = ddq ((ts.map (·.2)).take i) ∧ ∀ t ∈ us, CallAt K H0 t.1 t.2)
      ⟨s2.trans (Same.new nD), upd_ne (fun z => by rw [z] at x2; rw [x2] at nD; cases nD), o0, [], upd_same, no0, rfl, fun t m => nomatch m⟩ (fun i H' _ hP => ?_) (fun i y H1 H' hi hP yy => ?_) fun H' hP => ?_
    · exact hP.1.seq cq
    · obtain ⟨rfl, ey⟩ := yy
      obtain ⟨s3, x3, o3, us, eD, no, em, ca3⟩ := hP
      rw [List.getElem?_map] at ey
      obtain ⟨t, et, rfl⟩ := Option.map_eq_some_iff.mp ey
      have ct1 := ct t (List.mem_of_getElem? et)
      have lu : us.length ≤ 1000 := by
        have e := congrArg List.length em
        rw [List.length_map] at e
        have := ddq_len ((ts.map (·.2)).take i)
        rw [List.length_take, List.length_map] at this
        omega
      have po : ∀ {a : Addr} {l : Cl}, CallAt K H0 a l → PatOk l.p := fun ⟨_, _, _, z, _⟩ => z
      refine ⟨rfl, ?_⟩
      refine ⟨_, rfl, t.1, ckey t.2, o3, ents ckey us, rfl, (ct1.same s3).nka, ⟨eD, no, fun e me => ?_⟩, ?_, fun o' no' => ?_⟩
      · obtain ⟨v, mv, rfl⟩ := List.mem_map.mp me
        exact ((ca3 v mv).same s3).nka
      · unfold ents
        rw [List.length_map]
        exact Nat.lt_of_le_of_lt lu (by decide)
      · rw [ents_put fun v mv e => ckey_inj (po (ca3 v mv)) (po ct1) e] at no'
        refine ⟨Same.over s3 nD0, ?_, o', _, upd_same, no', ?_, fun v mv => ?_⟩
        · rw [← x3]
          exact upd_ne fun z => by
            rw [z] at x3
            rw [x3, ← z, x2] at eD
            cases eD
        · have e2 : (ts.map (·.2))[i]? = some t.2 := by rw [List.getElem?_map, et]; rfl
          rw [addB_map, em, take_snoc' e2, ddq_snoc]
        · rcases addB_mem mv with mv | rfl
          · exact ca3 v mv
          · exact ct1
    · obtain ⟨s3, x3, o3, us, eD, no, em, ca3⟩ := hP
      have em' : us.map (·.2) = ddq (ts.map (·.2)) := by
        rw [em, List.length_map, List.take_of_length_le (by rw [List.length_map]; exact Nat.le_refl _)]
      rw [x2] at x3
      refine ⟨D, o3, _, rfl, eD, no, fun cl ncl => ?_⟩
      have ecl : (ents ckey us).map (fun e => V.ref e.2.1) = us.map fun t => V.ref t.1 := by
        unfold ents
        rw [List.map_map]
        rfl
      rw [ecl]
      have xc : cl ≠ x := fun z => by rw [z, x3] at ncl; cases ncl
      have p3 := lf "calls" (.ref cl) _ 2 p2
      refine ⟨_, rfl, x, CR, dx, _, rfl, (by rw [upd_ne xc.symm]; exact x3), XQ.cl, XQ.n_calls, (by omega), ?_⟩
      have k5 := two_keep (H := H') (d := cl) (x := x) (u := .lst (us.map fun t => V.ref t.1)) (v := .ins CR dx (putF "calls" (.ref cl) (putF "after" (.ref ax) (putF "before" (.ref sx) [])))) ncl
      have s5 : Same H0 (upd (upd H' cl (.lst (us.map fun t => V.ref t.1))) x (.ins CR dx (putF "calls" (.ref cl) (putF "after" (.ref ax) (putF "before" (.ref sx) []))))) := Same.over (s3.trans (Same.new ncl)) n0
      have x5 := upd_same (H := upd H' cl (.lst (us.map fun t => V.ref t.1))) (a := x) (o := .ins CR dx (putF "calls" (.ref cl) (putF "after" (.ref ax) (putF "before" (.ref sx) []))))
      have c5 : (upd (upd H' cl (.lst (us.map fun t => V.ref t.1))) x (.ins CR dx (putF "calls" (.ref cl) (putF "after" (.ref ax) (putF "before" (.ref sx) []))))) cl = some (.lst (us.map fun t => V.ref t.1)) := by
        rw [upd_ne xc]
        exact upd_same
      generalize (upd (upd H' cl (.lst (us.map fun t => V.ref t.1))) x (.ins CR dx (putF "calls" (.ref cl) (putF "after" (.ref ax) (putF "before" (.ref sx) []))))) = H5 at *
      -- used
      refine fun du ou ndu nou => ?_
      have xu : du ≠ x := fun z => by rw [z, x5] at ndu; cases ndu
      have p4 := lf "used" (.ref du) _ 3 p3
      refine ⟨_, rfl, x, CR, dx, _, rfl, (by rw [upd_ne xu.symm]; exact x5), XQ.cl, XQ.n_used, (by omega), ?_⟩
      have k6 := two_keep (H := H5) (d := du) (x := x) (u := exO du ou) (v := .ins CR dx (putF "used" (.ref du) (putF "calls" (.ref cl) (putF "after" (.ref ax) (putF "before" (.ref sx) []))))) ndu
      have s6 : Same H0 (upd (upd H5 du (exO du ou)) x (.ins CR dx (putF "used" (.ref du) (putF "calls" (.ref cl) (putF "after" (.ref ax) (putF "before" (.ref sx) [])))))) := Same.over (s5.trans (Same.new ndu)) n0
      have x6 := upd_same (H := upd H5 du (exO du ou)) (a := x) (o := .ins CR dx (putF "used" (.ref du) (putF "calls" (.ref cl) (putF "after" (.ref ax) (putF "before" (.ref sx) [])))))
      have u6 : (upd (upd H5 du (exO du ou)) x (.ins CR dx (putF "used" (.ref du) (putF "calls" (.ref cl) (putF "after" (.ref ax) (putF "before" (.ref sx) [])))))) du = some (exO du ou) := by
        rw [upd_ne xu]
        exact upd_same
      have c6 := k6 cl _ xc c5
      have ndu0 := s5.free ndu
      generalize (upd (upd H5 du (exO du ou)) x (.ins CR dx (putF "used" (.ref du) (putF "calls" (.ref cl) (putF "after" (.ref ax) (putF "before" (.ref sx) [])))))) = H6 at *
      -- reads
      refine fun dd od ndd nod => ?_
      have xd : dd ≠ x := fun z => by rw [z, x6] at ndd; cases ndd
      have p5 := lf "reads" (.ref dd) _ 4 p4
      refine ⟨_, rfl, x, CR, dx, _, rfl, (by rw [upd_ne xd.symm]; exact x6), XQ.cl, XQ.n_reads, (by omega), ?_⟩
      have k7 := two_keep (H := H6) (d := dd) (x := x) (u := exO dd od) (v := .ins CR dx (putF "reads" (.ref dd) (putF "used" (.ref du) (putF "calls" (.ref cl) (putF "after" (.ref ax) (putF "before" (.ref sx) [])))))) ndd
      have s7 : Same H0 (upd (upd H6 dd (exO dd od)) x (.ins CR dx (putF "reads" (.ref dd) (putF "used" (.ref du) (putF "calls" (.ref cl) (putF "after" (.ref ax) (putF "before" (.ref sx) []))))))) := Same.over (s6.trans (Same.new ndd)) n0
      have x7 := upd_same (H := upd H6 dd (exO dd od)) (a := x) (o := .ins CR dx (putF "reads" (.ref dd) (putF "used" (.ref du) (putF "calls" (.ref cl) (putF "after" (.ref ax) (putF "before" (.ref sx) []))))))
      have d7 : (upd (upd H6 dd (exO dd od)) x (.ins CR dx (putF "reads" (.ref dd) (putF "used" (.ref du) (putF "calls" (.ref cl) (putF "after" (.ref ax) (putF "before" (.ref sx) []))))))) dd = some (exO dd od) := by
        rw [upd_ne xd]
        exact upd_same
      have c7 := k7 cl _ xc c6
      have u7 := k7 du _ xu u6
      have ndd0 := s6.free ndd
      have nud : du ≠ dd := fun z => by rw [← z, u6] at ndd; cases ndd
      generalize (upd (upd H6 dd (exO dd od)) x (.ins CR dx (putF "reads" (.ref dd) (putF "used" (.ref du) (putF "calls" (.ref cl) (putF "after" (.ref ax) (putF "before" (.ref sx) []))))))) = H7 at *
      -- changed
      refine fun dg og ndg nog => ?_
      have xg : dg ≠ x := fun z => by rw [z, x7] at ndg; cases ndg
      refine ⟨_, rfl, x, CR, dx, _, rfl, (by rw [upd_ne xg.symm]; exact x7), XQ.cl, XQ.n_changed, (by omega), ?_⟩
      have k8 := two_keep (H := H7) (d := dg) (x := x) (u := exO dg og) (v := .ins CR dx (fldQ (.ref sx) (.ref ax) (.ref cl) (.ref du) (.ref dd) (.ref dg))) ndg
      have s8 : Same H0 (upd (upd H7 dg (exO dg og)) x (.ins CR dx (fldQ (.ref sx) (.ref ax) (.ref cl) (.ref du) (.ref dd) (.ref dg)))) := Same.over (s7.trans (Same.new ndg)) n0
      refine q _ du dd s8 ndu0 ndd0 ⟨nud, ⟨dx, sx, ax, cl, dg, upd_same, (wv.same (Same.refl H0)).rx s8, us, ?_, em', fun t m => ?_⟩, ⟨ou, [], k8 _ _ xu u7, nou, fun e m => nomatch m⟩, ⟨od, [], k8 _ _ xd d7, nod, fun e m => nomatch m⟩, l2, l3, ?_⟩
      · exact Rx.sql (SqL.of (k8 _ _ xc c7))
      · exact (ca3 t m).rx s8
      · have := ddq_len (ts.map (·.2))
        rw [List.length_map] at this
        omega
end
end K1
namespace K1
open PySem PySem.Spec PyProof.Rows L2 Ow Tlz
abbrev sread_sectors : Stmt := topS 29
abbrev Nread_sectors : List Str := ["state", "layout", "call"]
theorem scread_sectors : FnScope Nread_sectors ["state", "layout", "call"] (defScope sread_sectors) := ⟨rfl, rfl, rfl, by decide +kernel, rfl, by decide +kernel, by decide +kernel⟩
abbrev sall_read : Stmt := topS 30
abbrev Nall_read : List Str := ["state", "layout", "calls"]
theorem scall_read : FnScope Nall_read ["state", "layout", "calls"] (defScope sall_read) := ⟨rfl, rfl, rfl, by decide +kernel, rfl, by decide +kernel, by decide +kernel⟩
def spRdSec (K : PySem.W.Frag) (C : Addr) : Sp := fun vs H Q _ => ∃ (sx lay c : Addr) (ks ss : List Str) (l : Cl) (R S : Tb) (F : Fb) (W : Wd), vs = [.ref sx, .ref lay, .ref c] ∧ Wv K C H sx R F S W ∧ LayOk K H lay S ks ss ∧ CallAt K H c l ∧ R.length ≤ 500 ∧ S.length ≤ 500 ∧
  ∀ H' p, Same H H' → H p = none → Sec K H' p (srtB (readS R W ss [l])) → Q (.ref p) H'
def spAllRd (K : PySem.W.Frag) (C : Addr) : Sp := fun vs H Q _ => ∃ (sx lay ca : Addr) (ks ss : List Str) (ts : List (Addr × Cl)) (R S : Tb) (F : Fb) (W : Wd), vs = [.ref sx, .ref lay, .ref ca] ∧ Wv K C H sx R F S W ∧ LayOk K H lay S ks ss ∧ SqL K H ca (ts.map fun t => V.ref t.1) ∧ (∀ t ∈ ts, CallAt K H t.1 t.2) ∧
  ts.length ≤ 1000 ∧ R.length ≤ 500 ∧ S.length ≤ 500 ∧ ∀ H' p, Same H H' → H p = none → Sec K H' p (srtB (readS R W ss (ddq (ts.map (·.2))))) → Q (.ref p) H'
theorem Rm.news {H H' : Hp} {d e : Addr} (s : Same H H') (n1 : H d = none) (n2 : H e = none) : Same H (Rm H' d e) := fun a o h => by
  unfold Rm
  rw [if_neg ?_]
  · exact s a o h
  · rintro (rfl | rfl)
    · rw [n1] at h
      cases h
    · rw [n2] at h
      cases h
section
variable {P : Program} {w : World} {K : PySem.W.Frag} {mg : Str → Option Value} {base : Heap} {C CR : Addr}
theorem ok_rdsec {f : Addr} {fd : FuncData} (F0 : Fun K "read_sectors" "read_sectors" sread_sectors f fd) (T0 : Bl mg) (gRequest : mg "Request" = some (.ref CR))
    (DRequest : Kmk P w K mg base CR 1 ["self", "before", "after", "calls"] (spQInit P w K C CR))
    (Qread : Kmt P w K mg base CR 13 "sectors_read" ["self", "layout"] (spSRead P w K C CR)) :
    FnOk P w K mg base CX0 14 f fd ["state", "layout", "call"] (spRdSec K C) := by
  refine F0.ok scread_sectors (fun vs H Q E h => ?_) (fun cdv A outer s0 H vs Q E hr h => ?_)
  · obtain ⟨sx, lay, c, ks, ss, l, R, S, F, W, rfl, _⟩ := h
    rfl
  · obtain ⟨sx, lay, c, ks, ss, l, R, S, F, W, rfl, wv, lo, ca, l2, l3, q⟩ := h
    refine ⟨_, (pss_one (ps_ret (pe_mt Qread hr (pe_mk DRequest gRequest hr (pa_cons (pv 0) (pa_cons (pv 0) (pa_cons (pe_lst (pa_cons (pv 2) pa_nil)) pa_nil)))) (pa_cons (pv 1) pa_nil)))), ?_⟩
    refine ⟨_, rfl, _, rfl, _, rfl, sz 1, fun ca0 nca => ?_⟩
    have s1 := Same.new (o := .lst [.ref c]) nca
    have e1 := upd_same (H := H) (a := ca0) (o := .lst [.ref c])
    generalize (upd H ca0 (.lst [.ref c])) = H1 at *
    refine fun x dx nx ndx ne => ?_
    have s2 : Same H1 (upd (upd H1 dx (.own x)) x (.ins CR dx [])) := (Same.new ndx).trans (Same.new (by rw [upd_ne ne.symm]; exact nx))
    refine ⟨x, sx, sx, ca0, dx, H1, [(c, l)], R, S, F, W, rfl, upd_same, s2, nx, wv.same s1, SqL.of e1, fun t m => ?_, (show 1 ≤ 1000 by decide), l2, l3, fun H3 du dd s3 nu nd rq => ⟨rfl, ?_⟩⟩
    · obtain rfl : t = (c, l) := by simpa using m
      exact ca.same s1
    · obtain ⟨dx3, sx3, ax3, cl3, dc3, ex3, _⟩ := id rq.ob
      refine ⟨x, dx3, _, rfl, ex3, no_sectors_read _ _ _ _ _ _, _, rfl, x, lay, du, dd, ks, ss, R, S, F, W, _, rfl, rq, lo.same (s1.trans s3), fun H4 p s4 rq4 np sec => ?_⟩
      exact q _ p (s1.trans (((Rm.news s3 nu nd).trans s4).trans (Rm.le _ _ _))) ((s1.trans s3).free np) (sec.same (Rx.le _))
theorem ok_allrd {f : Addr} {fd : FuncData} (F0 : Fun K "all_read" "all_read" sall_read f fd) (T0 : Bl mg) (gRequest : mg "Request" = some (.ref CR))
    (DRequest : Kmk P w K mg base CR 1 ["self", "before", "after", "calls"] (spQInit P w K C CR))
    (Qread : Kmt P w K mg base CR 13 "sectors_read" ["self", "layout"] (spSRead P w K C CR)) :
    FnOk P w K mg base CX0 14 f fd ["state", "layout", "calls"] (spAllRd K C) := by
  refine F0.ok scall_read (fun vs H Q E h => ?_) (fun cdv A outer s0 H vs Q E hr h => ?_)
  · obtain ⟨sx, lay, ca, ks, ss, ts, R, S, F, W, rfl, _⟩ := h
    rfl
  · obtain ⟨sx, lay, ca, ks, ss, ts, R, S, F, W, rfl, wv, lo, cq, ct, l1, l2, l3, q⟩ := h
    refine ⟨_, (pss_one (ps_ret (pe_mt Qread hr (pe_mk DRequest gRequest hr (pa_cons (pv 0) (pa_cons (pv 0) (pa_cons (pv 2) pa_nil)))) (pa_cons (pv 1) pa_nil)))), ?_⟩
    refine ⟨_, rfl, _, rfl, _, rfl, fun x dx nx ndx ne => ?_⟩
    have s2 : Same H (upd (upd H dx (.own x)) x (.ins CR dx [])) := (Same.new ndx).trans (Same.new (by rw [upd_ne ne.symm]; exact nx))
    refine ⟨x, sx, sx, ca, dx, H, ts, R, S, F, W, rfl, upd_same, s2, nx, wv, cq, ct, l1, l2, l3, fun H3 du dd s3 nu nd rq => ⟨rfl, ?_⟩⟩
    obtain ⟨dx3, sx3, ax3, cl3, dc3, ex3, _⟩ := id rq.ob
    refine ⟨x, dx3, _, rfl, ex3, no_sectors_read _ _ _ _ _ _, _, rfl, x, lay, du, dd, ks, ss, R, S, F, W, _, rfl, rq, lo.same s3, fun H4 p s4 rq4 np sec => ?_⟩
    exact q _ p (((Rm.news s3 nu nd).trans s4).trans (Rm.le _ _ _)) (s3.free np) (sec.same (Rx.le _))
end
end K1
namespace K1
open PySem PySem.Spec PyProof.Rows L2 Ow Tlz
/-! what tables have that items were put into -/
structure Got (is : List It) (R : Tb) (F : Fb) (S : Tb) (L : List (Str × V)) : Prop where
  r : ∀ n q c, valG R n = some (q, c) → It.rel n c ∈ is
  s : ∀ n q c, valG S n = some (q, c) → It.str n c ∈ is
  l : ∀ n v, valG L n = some v → It.lay n v ∈ is
  f : ∀ n q rs, valG F n = some (q, rs) → (∀ t ∈ rs, ∃ r, It.fact n r t.2 ∈ is) ∧ rs.length ≤ is.length
  rh : ∀ n c, It.rel n c ∈ is → (valG R n).isSome = true ∧ (valG F n).isSome = true
  sh : ∀ n c, It.str n c ∈ is → (valG S n).isSome = true
  lh : ∀ n v, It.lay n v ∈ is → (valG L n).isSome = true
theorem put_some {β : Type} {l : List (Str × β)} {k : Str} {b : β} {m : Str} (h : (valG l m).isSome = true) : (valG (putG l k b) m).isSome = true := by
  rw [valG_put]
  split
  · rfl
  · exact h
theorem put_get {β : Type} {l : List (Str × β)} {k : Str} {b c : β} {m : Str} (h : valG (putG l k b) m = some c) : (m = k ∧ c = b) ∨ valG l m = some c := by
  rw [valG_put] at h
  split at h
  · rename_i e
    exact .inl ⟨e, (Option.some.inj h).symm⟩
  · exact .inr h
theorem putF_got {F F' : Fb} {n : Str} {r : Addr} {row : List V} (h : PutF F n r row F') : (∀ m, (valG F m).isSome = true → (valG F' m).isSome = true) ∧ (valG F' n).isSome = true ∧
    ∀ m q rs, valG F' m = some (q, rs) → (∃ q' rs', valG F m = some (q', rs') ∧ rs.length ≤ rs'.length + 1 ∧ ∀ t ∈ rs, t ∈ rs' ∨ (m = n ∧ t.2 = row)) ∨ (valG F m = none ∧ m = n ∧ rs.length ≤ 1 ∧ ∀ t ∈ rs, t.2 = row) := by
  obtain ⟨q, rs, F1, k, h1, h2, _, h4⟩ := h
  have e1 : ∀ m q' rs', valG F1 m = some (q', rs') → (∃ q'' , valG F m = some (q'', rs')) ∨ (valG F m = none ∧ m = n ∧ rs' = []) := fun m q' rs' e => by
    rcases h1 with ⟨rfl, _⟩ | ⟨hn, hr, rfl⟩
    · exact .inl ⟨_, e⟩
    · rw [← putG_new _ hn] at e
      rcases put_get e with ⟨rfl, e9⟩ | e
      · cases e9
        exact .inr ⟨hn, rfl, rfl⟩
      · exact .inl ⟨_, e⟩
  have s1 : ∀ m, (valG F m).isSome = true → (valG F1 m).isSome = true := fun m e => by
    rcases h1 with ⟨rfl, _⟩ | ⟨hn, _, rfl⟩
    · exact e
    · rw [← putG_new _ hn]
      exact put_some e
  have n1 : valG F1 n = some (q, rs) := by
    rcases h1 with ⟨rfl, e⟩ | ⟨hn, rfl, rfl⟩
    · exact e
    · rw [← putG_new _ hn, valG_put, if_pos rfl]
  rcases h4 with ⟨rfl, _⟩ | ⟨rfl, _⟩
  · refine ⟨s1, by rw [n1]; rfl, fun m q' rs' e => ?_⟩
    rcases e1 m q' rs' e with ⟨q'', e8⟩ | ⟨e8, e2, rfl⟩
    · exact .inl ⟨q'', rs', e8, Nat.le_succ _, fun t m => .inl m⟩
    · exact .inr ⟨e8, e2, Nat.zero_le _, fun t m => nomatch m⟩
  · refine ⟨fun m e => put_some (s1 m e), by rw [valG_put, if_pos rfl]; rfl, fun m q' rs' e => ?_⟩
    rcases put_get e with ⟨rfl, e9⟩ | e
    · cases e9
      have len : (rs.take k ++ [(r, row)] ++ rs.drop k).length = rs.length + 1 := by
        rw [List.length_append, List.length_append, List.length_singleton, List.length_take, List.length_drop]
        omega
      have mem : ∀ t ∈ rs.take k ++ [(r, row)] ++ rs.drop k, t ∈ rs ∨ t.2 = row := fun t mt => by
        rcases List.mem_append.mp mt with mt | mt
        · rcases List.mem_append.mp mt with mt | mt
          · exact .inl (List.mem_of_mem_take mt)
          · obtain rfl : t = (r, row) := by simpa using mt
            exact .inr rfl
        · exact .inl (List.mem_of_mem_drop mt)
      rcases e1 m q rs n1 with ⟨q'', e8⟩ | ⟨e8, _, rfl⟩
      · exact .inl ⟨q'', rs, e8, by omega, fun t mt => (mem t mt).imp id fun z => ⟨rfl, z⟩⟩
      · refine .inr ⟨e8, rfl, by rw [len]; exact Nat.le_refl _, fun t mt => ?_⟩
        rcases mem t mt with z | z
        · nomatch z
        · exact z
    · rcases e1 m q' rs' e with ⟨q'', e8⟩ | ⟨e8, e2, rfl⟩
      · exact .inl ⟨q'', rs', e8, Nat.le_succ _, fun t m => .inl m⟩
      · exact .inr ⟨e8, e2, Nat.zero_le _, fun t m => nomatch m⟩
theorem Puts.got {is : List It} {R : Tb} {F : Fb} {S : Tb} {L : List (Str × V)} (h : Puts is R F S L) : Got is R F S L := by
  induction h with
  | nil => exact ⟨fun _ _ _ e => (by cases e), fun _ _ _ e => (by cases e), fun _ _ e => (by cases e), fun _ _ _ e => (by cases e), fun _ _ m => (nomatch m), fun _ _ m => (nomatch m), fun _ _ m => (nomatch m)⟩
  | @snoc is i R S R' S' F F' L L' _ p ih =>
    have ml : ∀ {j : It}, j ∈ is → j ∈ is ++ [i] := fun m => List.mem_append_left _ m
    have mi : i ∈ is ++ [i] := List.mem_append_right _ (List.mem_singleton.mpr rfl)
    have ll : (is ++ [i]).length = is.length + 1 := by rw [List.length_append]; rfl
    have of : ∀ {j : It}, j ∈ is ++ [i] → j ∈ is ∨ j = i := fun m => (List.mem_append.mp m).imp id fun z => by simpa using z
    cases i with
    | rel n c =>
      obtain ⟨⟨q, rfl⟩, pf, rfl, rfl⟩ := p
      have pf' : F' = F ∨ (∃ q, valG F n = none ∧ F' = putG F n (q, [])) := by
        rcases pf with ⟨_, e⟩ | ⟨q, e, z⟩
        · exact .inl e
        · exact .inr ⟨q, e, by rw [putG_new _ e]; exact z⟩
      have sF : ∀ m, (valG F m).isSome = true → (valG F' m).isSome = true := fun m e => by
        rcases pf' with rfl | ⟨q, _, rfl⟩
        · exact e
        · exact put_some e
      refine ⟨fun m q' c' e => ?_, fun m q' c' e => ml (ih.s m q' c' e), fun m v e => ml (ih.l m v e), fun m q' rs e => ?_, fun m c' e => ?_, fun m c' e => ?_, fun m c' e => ?_⟩
      · rcases put_get e with ⟨rfl, e9⟩ | e
        · cases e9
          exact mi
        · exact ml (ih.r m q' c' e)
      · have key : valG F m = some (q', rs) ∨ rs = [] := by
          rcases pf' with rfl | ⟨q, _, rfl⟩
          · exact .inl e
          · rcases put_get e with ⟨_, e9⟩ | e
            · cases e9
              exact .inr rfl
            · exact .inl e
        rcases key with e | rfl
        · obtain ⟨a, b⟩ := ih.f m q' rs e
          exact ⟨fun t mt => (a t mt).imp fun r z => ml z, by omega⟩
        · exact ⟨fun t mt => (nomatch mt), Nat.zero_le _⟩
      · rcases of e with e | e
        · obtain ⟨a, b⟩ := ih.rh m c' e
          exact ⟨put_some a, sF m b⟩
        · cases e
          refine ⟨by rw [valG_put, if_pos rfl]; rfl, ?_⟩
          rcases pf with ⟨e, rfl⟩ | ⟨q, e, rfl⟩
          · exact e
          · rw [← putG_new _ e, valG_put, if_pos rfl]
            rfl
      · rcases of e with e | e
        · exact ih.sh m c' e
        · cases e
      · rcases of e with e | e
        · exact ih.lh m c' e
        · cases e
    | fact n r row =>
      obtain ⟨pf, rfl, rfl, rfl⟩ := p
      obtain ⟨sF, nF, gF⟩ := putF_got pf
      refine ⟨fun m q' c' e => ml (ih.r m q' c' e), fun m q' c' e => ml (ih.s m q' c' e), fun m v e => ml (ih.l m v e), fun m q' rs e => ?_, fun m c' e => ?_, fun m c' e => ?_, fun m c' e => ?_⟩
      · rcases gF m q' rs e with ⟨q2, rs2, e2, l2, h2⟩ | ⟨_, rfl, l2, h2⟩
        · obtain ⟨a, b⟩ := ih.f m q2 rs2 e2
          refine ⟨fun t mt => ?_, by omega⟩
          rcases h2 t mt with z | ⟨rfl, z⟩
          · exact (a t z).imp fun r z => ml z
          · rw [z]
            exact ⟨r, mi⟩
        · exact ⟨fun t mt => by rw [h2 t mt]; exact ⟨r, mi⟩, by omega⟩
      · rcases of e with e | e
        · obtain ⟨a, b⟩ := ih.rh m c' e
          exact ⟨a, sF m b⟩
        · cases e
      · rcases of e with e | e
        · exact ih.sh m c' e
        · cases e
      · rcases of e with e | e
        · exact ih.lh m c' e
        · cases e
    | str n c =>
      obtain ⟨⟨q, rfl⟩, rfl, rfl, rfl⟩ := p
      refine ⟨fun m q' c' e => ml (ih.r m q' c' e), fun m q' c' e => ?_, fun m v e => ml (ih.l m v e), fun m q' rs e => ?_, fun m c' e => ?_, fun m c' e => ?_, fun m c' e => ?_⟩
      · rcases put_get e with ⟨rfl, e9⟩ | e
        · cases e9
          exact mi
        · exact ml (ih.s m q' c' e)
      · obtain ⟨a, b⟩ := ih.f m q' rs e
        exact ⟨fun t mt => (a t mt).imp fun r z => ml z, by omega⟩
      · rcases of e with e | e
        · exact ih.rh m c' e
        · cases e
      · rcases of e with e | e
        · exact put_some (ih.sh m c' e)
        · cases e
          rw [valG_put, if_pos rfl]
          rfl
      · rcases of e with e | e
        · exact ih.lh m c' e
        · cases e
    | lay n v =>
      obtain ⟨rfl, rfl, rfl, rfl⟩ := p
      refine ⟨fun m q' c' e => ml (ih.r m q' c' e), fun m q' c' e => ml (ih.s m q' c' e), fun m v' e => ?_, fun m q' rs e => ?_, fun m c' e => ?_, fun m c' e => ?_, fun m c' e => ?_⟩
      · rcases put_get e with ⟨rfl, e9⟩ | e
        · cases e9
          exact mi
        · exact ml (ih.l m v' e)
      · obtain ⟨a, b⟩ := ih.f m q' rs e
        exact ⟨fun t mt => (a t mt).imp fun r z => ml z, by omega⟩
      · rcases of e with e | e
        · exact ih.rh m c' e
        · cases e
      · rcases of e with e | e
        · exact ih.sh m c' e
        · cases e
      · rcases of e with e | e
        · exact put_some (ih.lh m c' e)
        · cases e
          rw [valG_put, if_pos rfl]
          rfl
end K1
namespace K1
open PySem PySem.Spec PyProof.Rows L2 Ow Tlz
/-! what is drawn: twelve values -/
def gI (xs : List Int) (i : Nat) : Int := xs.getD i 0
theorem gI_at {xs : List Int} {i : Nat} {v : Int} (h : xs[i]? = some v) : gI xs i = v := by unfold gI; rw [List.getD_eq_getElem?_getD, h]; rfl
theorem at_gI {xs : List Int} {i : Nat} (h : i < xs.length) : xs[i]? = some (gI xs i) := by
  rw [List.getElem?_eq_getElem h]
  exact congrArg some (gI_at (List.getElem?_eq_getElem h)).symm
theorem li_at {xs : List Int} {i : Nat} (h : i < xs.length) : (xs.map V.int)[i]? = some (V.int (gI xs i)) := by rw [List.getElem?_map, at_gI h]; rfl
/-- a list of lists of ints, none of which is av -/
def itD : Nat → Int → Int
  | 0, c => c
  | n + 1, c => itD n (c / 100003)
theorem itD_succ (n : Nat) (c : Int) : itD (n + 1) c = itD n c / 100003 := by
  induction n generalizing c with
  | zero => rfl
  | succ n ih => exact ih (c / 100003)
def drawF (ns : List Int) (k : Nat) : Int :=
  if ns.length = 0 then (k : Int) * 5 % 7 else
  if gI ns (k % ns.length) ≥ 1000000000000000000 then itD (min (k / ns.length) 60) (gI ns (k % ns.length)) % 100003
  else (gI ns (k % ns.length) * 48271 + (k : Int) * 69621 + 13) % 2147483647 * 16807 % 2147483629
theorem drawF_nn (ns : List Int) (k : Nat) : 0 ≤ drawF ns k := by
  unfold drawF
  split
  · omega
  · split
    · exact Int.emod_nonneg _ (by decide)
    · exact Int.emod_nonneg _ (by decide)
theorem min60 (t : Nat) : (if (60 : Int) < ((t : Nat) : Int) then (60 : Int) else ((t : Nat) : Int)).toNat = min t 60 := by rw [Nat.min_def]; split <;> split <;> omega
theorem min60b {t : Nat} (h : t ≤ 100000) : -(2 ^ 62) ≤ (if (60 : Int) < ((t : Nat) : Int) then (60 : Int) else ((t : Nat) : Int)) ∧ (if (60 : Int) < ((t : Nat) : Int) then (60 : Int) else ((t : Nat) : Int)) < 2 ^ 62 := by
  split <;> constructor <;> omega
abbrev s_law_draw : Stmt := topS 32
abbrev N_law_draw : List Str := ["script", "k", "cell", "turn", "step"]
theorem sc_law_draw : FnScope N_law_draw ["script", "k"] (defScope s_law_draw) := ⟨rfl, rfl, rfl, by decide +kernel, rfl, by decide +kernel, by decide +kernel⟩
def spDraw (K : PySem.W.Frag) : Sp := fun vs H Q _ => ∃ (a : Addr) (ns : List Int) (k : Nat), vs = [.ref a, .int (k : Nat)] ∧ SqL K H a (ns.map V.int) ∧ ns.length ≤ 63 ∧ k ≤ 100000 ∧ Q (.int (drawF ns k)) H
abbrev s_law_value : Stmt := topS 33
abbrev NV_law_value : List Str := ["number"]
theorem scV_law_value : FnScope NV_law_value ["number"] (defScope s_law_value) := ⟨rfl, rfl, rfl, by decide +kernel, rfl, by decide +kernel, by decide +kernel⟩
def LV : List V := [.int (-2), .int (-1), .int 0, .int 1, .int 2, .int 3, .int 4, .str "t0", .str "t1", .str "t2", .str "t3", .str "t4"]
def spLValue : Sp := fun vs H Q _ => ∃ d : Int, vs = [.int d] ∧ ∀ v, v ∈ LV → Q v H
theorem LV_int {i : Int} (h0 : -2 ≤ i) (h1 : i ≤ 4) : V.int i ∈ LV := by
  have : i = -2 ∨ i = -1 ∨ i = 0 ∨ i = 1 ∨ i = 2 ∨ i = 3 ∨ i = 4 := by omega
  rcases this with rfl | rfl | rfl | rfl | rfl | rfl | rfl <;> simp [LV]
theorem LV_txt {i : Int} (h0 : 0 ≤ i) (h1 : i < 5) : V.str (("t" : Str) ++ (toString i : String)) ∈ LV ∧ ("t" : Str).length + (Str.ofString (toString i)).length ≤ sizeLine := by
  have : i = 0 ∨ i = 1 ∨ i = 2 ∨ i = 3 ∨ i = 4 := by omega
  rcases this with rfl | rfl | rfl | rfl | rfl <;> exact ⟨by decide +kernel, by decide +kernel⟩
theorem LV_sc {v : V} (h : v ∈ LV) : Scal v := by
  have iI : ∀ i : Int, i.natAbs < 8 → Scal (.int i) := fun i h => .inl ⟨_, rfl, Nat.lt_of_lt_of_le h (by decide)⟩
  have iS : ∀ z : Str, Pr z → z.length ≤ 200 → Scal (.str z) := fun z h l => .inr ⟨_, rfl, h, l⟩
  simp only [LV, List.mem_cons, List.not_mem_nil, or_false] at h
  rcases h with rfl | rfl | rfl | rfl | rfl | rfl | rfl | rfl | rfl | rfl | rfl | rfl
  all_goals first
    | exact iI _ (by decide)
    | exact iS _ (by decide +kernel) (by decide +kernel)
theorem LV_len : ∀ v ∈ LV, (valB v).length ≤ 4 := by decide +kernel
def reprT : V → Str
  | .int i => toString i
  | .str z => reprText z
  | _ => ""
def lenT : V → Nat
  | .str z => (reprText z).length
  | _ => 0
def absT : V → Nat
  | .int i => i.natAbs
  | _ => 0
theorem reprT_inj : ∀ a ∈ LV, ∀ b ∈ LV, reprT a = reprT b → a = b := by decide +kernel
section
variable {P : Program} {w : World} {K : PySem.W.Frag} {mg : Str → Option Value} {base : Heap}
theorem cr_reprV {X : Cx} : CallR X (.builtin "repr") (fun vs H Q => ∃ v, vs = [v] ∧ v ∈ LV ∧ Q (.str (reprT v)) H) := by
  intro pins s σ H vs us Q I r h
  obtain ⟨v, rfl, m, q⟩ := h
  obtain ⟨u, rfl, ru⟩ := vals1 r
  rcases LV_sc m with ⟨i, rfl, hi⟩ | ⟨z, rfl, _⟩
  · obtain ⟨t, rfl⟩ := ru
    refine PySem.P.repr_of_int (Nat.lt_of_le_of_lt (Nat.log2_le_self _) ?_) ⟨.str _, H, I.tok _, ⟨_, rfl⟩, q⟩
    have : ∀ v ∈ LV, (absT v < 8) := by decide +kernel
    exact Nat.lt_trans (this _ m) (by decide)
  · obtain ⟨t, rfl⟩ := ru
    have : ∀ v ∈ LV, (lenT v ≤ 100) := by decide +kernel
    exact PySem.P.repr_of_str ⟨.str _, H, I.tok _, ⟨_, rfl⟩, q⟩ (Nat.le_trans (this _ m) (by decide))
theorem ok_draw {f : Addr} {fd : FuncData} (F : Fun K "_law_draw" "_law_draw" s_law_draw f fd) (T : Bl mg) :
    FnOk P w K mg base CX0 1 f fd ["script", "k"] (spDraw K) := by
  refine F.ok sc_law_draw (fun vs H Q E h => ?_) (fun cdv A outer s H vs Q E hr h => ?_)
  · obtain ⟨a, ns, k, rfl, _⟩ := h
    rfl
  · obtain ⟨a, ns, k, rfl, hs, hl, hk, q⟩ := h
    refine ⟨_, (pss_cons (ps_if (pt_not (pt_truth (pv 0) (fun _ => rfl))) (pss_one (ps_ret (pe_op op_mod (pe_op op_mul (pv 1) pe_int) pe_int))) pss_nil)
      (pss_cons (ps_set (i := 2) sc_law_draw.nd rfl (.inl rfl) (pe_callTy call_int1 (by rfl) T.int (by decide +kernel) (pa_cons (pe_ix ix_list (pv 0) (pe_op op_mod (pv 1) (pe_callB call_len_seq (by rfl) T.len PySem.boot_len (pa_cons (pv 0) pa_nil))) (fun _ _ => rfl)) pa_nil)))
      (pss_cons (ps_set (i := 3) sc_law_draw.nd rfl (.inl rfl) (pe_op op_fdiv (pv 1) (pe_callB call_len_seq (by rfl) T.len PySem.boot_len (pa_cons (pv 0) pa_nil))))
      (pss_cons (ps_if (pt_cmpR op_ge (pv 2) pe_int (nomark _)) (pss_cons (ps_for PassesOwn.never rfl (pi_range1 (by rfl) T.range (pa_cons (pe_callB (call_min2 rfl) (by rfl) T.min (by decide +kernel) (pa_cons (pv 3) (pa_cons pe_int pa_nil))) pa_nil)) (pg_name (i := 4) sc_law_draw.nd rfl (.inl rfl)) (pss_one (ps_set (i := 2) sc_law_draw.nd rfl (.inl rfl) (pe_op op_fdiv (pv 2) pe_int))))
      (pss_one (ps_ret (pe_op op_mod (pv 2) pe_int)))) pss_nil)
      (pss_one (ps_ret (pe_op op_mod (pe_op op_mul (pe_op op_mod (pe_op op_add (pe_op op_add (pe_op op_mul (pv 2) pe_int) (pe_op op_mul (pv 1) pe_int)) pe_int) pe_int) pe_int) pe_int))))))), ?_⟩
    refine ⟨_, rfl, _, .inl ⟨_, hs, rfl⟩, ?_⟩
    by_cases hz : ns.length = 0
    · have e0 : ns = [] := List.length_eq_zero_iff.mp hz
      subst e0
      refine iteT ?_
      refine ⟨_, rfl, _, 5, rfl, rfl, .inr ⟨by decide, by decide⟩, _, _, rfl, rfl, (by show (0 : Int) < 7; decide), ?_⟩
      unfold drawF at q
      rw [if_pos hz] at q
      exact q
    · have e0 : (ns.map V.int).isEmpty = false := by
        cases ns with
        | nil => exact absurd rfl hz
        | cons a r => rfl
      rw [e0]
      refine iteF ?_
      have pos : 0 < ns.length := Nat.pos_of_ne_zero hz
      have hm : k % ns.length < ns.length := Nat.mod_lt _ pos
      have cl : ((ns.map V.int).length : Int) = (ns.length : Int) := by rw [List.length_map]
      -- cell, turn
      refine ⟨_, rfl, _, rfl, _, rfl, a, _, rfl, .inl hs, _, _, rfl, rfl, (by show (0 : Int) < ((ns.map V.int).length : Int); rw [cl]; omega), a, _, _, V.int (gI ns (k % ns.length)), rfl, rfl, hs, ?_, .inl ⟨_, rfl, ?_⟩⟩
      · have := atI_nat (li_at hm)
        rw [show ((k : Int) % ((ns.map V.int).length : Int)) = ((k % ns.length : Nat) : Int) by rw [cl]; rfl]
        exact this
      refine ⟨_, rfl, _, rfl, a, _, rfl, .inl hs, _, _, rfl, rfl, ⟨by show (0 : Int) < ((ns.map V.int).length : Int); rw [cl]; omega, by show ((ns.map V.int).length : Int) < _; rw [cl]; omega⟩, ?_⟩
      have et : ((k : Int) / ((ns.map V.int).length : Int)) = ((k / ns.length : Nat) : Int) := by rw [cl]; rfl
      show gName 3 (V.int ((k : Int) / ((ns.map V.int).length : Int))) _ _ _
      rw [et]
      refine ⟨_, rfl, _, _, rfl, rfl, _, rfl, ?_⟩
      unfold drawF at q
      rw [if_neg hz] at q
      refine ite2 (fun hb => ?_) (fun hb => ?_)
      · have hb' := of_decide_eq_true hb
        rw [if_pos hb'] at q
        have ub : k / ns.length ≤ k := Nat.div_le_self _ _
        have ej := min60 (k / ns.length)
        have jb := min60b (show k / ns.length ≤ 100000 by omega)
        refine ⟨_, rfl, _, _, rfl, _, rfl, jb.1, jb.2, ?_⟩
        rw [ej]
        refine for_range (lo := 0) (fun i σ H' => ∃ v4, σ = [some (.ref a), some (.int (k : Nat)), some (.int (itD i (gI ns (k % ns.length)))), some (.int ((k / ns.length : Nat) : Int)), v4] ∧ H' = H) ⟨none, rfl, rfl⟩ ?_ ?_
        · rintro i σ H' hi ⟨v4, rfl, rfl⟩
          refine ⟨_, rfl, _, _, rfl, rfl, ⟨by decide, by decide⟩, some (.int (0 + (i : Int))), ?_, rfl⟩
          rw [itD_succ]
          rfl
        · rintro σ H' ⟨v4, rfl, rfl⟩
          exact ⟨_, rfl, _, _, rfl, rfl, (by show (0 : Int) < 100003; decide), q⟩
      · have hb' : ¬ _ := fun z => hb (decide_eq_true z)
        rw [if_neg hb'] at q
        refine ⟨_, rfl, _, 48271, rfl, rfl, .inr ⟨by decide, by decide⟩, _, rfl, _, 69621, rfl, rfl, .inr ⟨by decide, by decide⟩, _, _, rfl, rfl, _, _, rfl, rfl, _, _, rfl, rfl, (by show (0 : Int) < 2147483647; decide), _, _, rfl, rfl, .inr ⟨by decide, by decide⟩, _, _, rfl, rfl, (by show (0 : Int) < 2147483629; decide), q⟩
theorem ok_lvalue {f : Addr} {fd : FuncData} (F : Fun K "_law_value" "_law_value" s_law_value f fd) (T : Bl mg) :
    FnOk P w K mg base CX0 1 f fd ["number"] spLValue := by
  refine F.ok scV_law_value (fun vs H Q E h => ?_) (fun cdv A outer s H vs Q E hr h => ?_)
  · obtain ⟨d, rfl, _⟩ := h
    rfl
  · obtain ⟨d, rfl, q⟩ := h
    refine ⟨_, (pss_cons (ps_if (pt_cmpR op_eq (pe_op op_mod (pv 0) pe_int) pe_int (nomark _)) (pss_one (ps_ret (pe_op op_add_str pe_str (pe_callTy call_str_int (by rfl) T.str (by decide +kernel) (pa_cons (pe_op op_mod (pe_op op_fdiv (pv 0) pe_int) pe_int) pa_nil))))) pss_nil)
      (pss_one (ps_ret (pe_op op_sub (pe_op op_mod (pe_op op_fdiv (pv 0) pe_int) pe_int) pe_int)))), ?_⟩
    refine ⟨_, rfl, _, _, rfl, rfl, (by show (0 : Int) < 4; decide), rfl, _, rfl, ite2 (fun _ => ?_) (fun _ => ?_)⟩
    · have h0 := Int.emod_nonneg (d / 4) (show (5 : Int) ≠ 0 by decide)
      have h1 := Int.emod_lt_of_pos (d / 4) (show (0 : Int) < 5 by decide)
      have hh := LV_txt h0 h1
      refine ⟨_, rfl, _, _, rfl, rfl, ⟨by decide, by decide⟩, _, _, rfl, rfl, (by show (0 : Int) < 5; decide), _, rfl, ?_, _, _, rfl, rfl, hh.2, q _ hh.1⟩
      have : (d / 4 % 5).natAbs < 5 := by omega
      exact Nat.lt_of_le_of_lt (Nat.log2_le_self _) (by omega)
    · refine ⟨_, rfl, _, _, rfl, rfl, ⟨by decide, by decide⟩, _, _, rfl, rfl, (by show (0 : Int) < 7; decide), _, _, rfl, rfl, q _ (LV_int (i := d / 4 % 7 - 2) ?_ ?_)⟩
      · have h0 := Int.emod_nonneg (d / 4) (show (7 : Int) ≠ 0 by decide)
        omega
      · have h1 := Int.emod_lt_of_pos (d / 4) (show (0 : Int) < 7 by decide)
        omega
end
end K1
namespace K1
open PySem PySem.Spec PyProof.Rows L2 Ow Tlz
abbrev s_law_state : Stmt := topS 34
abbrev N_law_state : List Str := ["script", "start", "items", "k", "number", "buckets", "layouts"]
theorem sc_law_state : FnScope N_law_state ["script", "start"] (defScope s_law_state) := ⟨rfl, rfl, rfl, by decide +kernel, rfl, by decide +kernel, by decide +kernel⟩
def FactOk (i : It) : Prop := ∃ n r row, i = .fact n r row ∧ ((n = "q" ∧ row.length = 1) ∨ (n = "p" ∧ row.length = 2)) ∧ ∀ v ∈ row, v ∈ LV
/-- a list of items under way -/
structure Itm (K : PySem.W.Frag) (H0 H : Hp) (p : Addr) (n : Nat) (fs : List It) (ft : List (Addr × List V)) : Prop where
  same : Same H0 H
  nw : H0 p = none
  ex : ∃ its : List (Addr × It), H p = some (.lst (its.map fun t => .ref t.1)) ∧ (∀ t ∈ its, ItAt K H t.1 t.2) ∧ its.length ≤ n ∧ (∀ t ∈ its, t.2 ∈ fs ∨ FactOk t.2) ∧ ∀ i ∈ fs, ∃ a, (a, i) ∈ its
  ft : ∀ t ∈ ft, FT H t.1 t.2
section
variable {K : PySem.W.Frag} {H0 H H' : Hp} {p : Addr} {n : Nat} {fs : List It} {ft : List (Addr × List V)}
theorem Itm.other (h : Itm K H0 H p n fs ft) (s : Same H H') : Itm K H0 H' p n fs ft := by
  obtain ⟨its, e, ok, l, a1, a2⟩ := h.ex
  exact ⟨h.same.trans s, h.nw, ⟨its, s _ _ e, fun t m => (ok t m).tk (Tk.same s), l, a1, a2⟩, fun t m => (Tk.same (K := K) s).x _ _ (h.ft t m)⟩
theorem Itm.addF (h : Itm K H0 H p n fs ft) {t : Addr} {o : Obj} {xs : List V} (nt : H t = none) (d : o.dict = none) (c : o.cls = .type "tuple") : Itm K H0 (upd H t (.frz o (.tup xs))) p n fs (ft ++ [(t, xs)]) := by
  have h' := h.other (Same.new (o := .frz o (.tup xs)) nt)
  refine ⟨h'.same, h'.nw, h'.ex, fun u m => ?_⟩
  rcases List.mem_append.mp m with m | m
  · exact h'.ft u m
  · obtain rfl : u = (t, xs) := by simpa using m
    exact ⟨o, upd_same, d, c⟩
theorem Itm.push {a : Addr} {m : Nat} {i : It} (h : Itm K H0 H p n fs ft) (fs' : List It) (hi : ItAt K H a i) (hm : n + 1 ≤ m) (hb : m ≤ 1000) (f1 : ∀ j ∈ fs, j ∈ fs') (f2 : ∀ j ∈ fs', j ∈ fs ∨ j = i) (f3 : i ∈ fs' ∨ FactOk i) :
    ∃ xs, H p = some (.lst xs) ∧ xs.length < sizeLine ∧ Itm K H0 (upd H p (.lst (xs ++ [.ref a]))) p m fs' ft := by
  obtain ⟨its, e, ok, l, a1, a2⟩ := h.ex
  have tE : Tk K H (upd H p (.lst ((its.map fun t => .ref t.1) ++ [.ref a]))) := Tk.put e
  refine ⟨_, e, by rw [List.length_map]; exact small (m := 1000) (by omega) (by decide), Same.over h.same h.nw, h.nw, ⟨its ++ [(a, i)], by rw [upd_same, List.map_append]; rfl, fun t mt => ?_, by rw [List.length_append, List.length_singleton]; omega, fun t mt => ?_, fun j mj => ?_⟩, fun t mt => tE.x _ _ (h.ft t mt)⟩
  · rcases List.mem_append.mp mt with mt | mt
    · exact (ok t mt).tk tE
    · obtain rfl : t = (a, i) := by simpa using mt
      exact hi.tk tE
  · rcases List.mem_append.mp mt with mt | mt
    · exact (a1 t mt).imp (f1 _) id
    · obtain rfl : t = (a, i) := by simpa using mt
      exact f3
  · rcases f2 j mj with z | rfl
    · exact (a2 j z).imp fun b z => List.mem_append_left _ z
    · exact ⟨a, List.mem_append_right _ (List.mem_singleton.mpr rfl)⟩
theorem Itm.pushF {a : Addr} {m : Nat} {i : It} (h : Itm K H0 H p n fs ft) (hi : ItAt K H a i) (hm : n + 1 ≤ m) (hb : m ≤ 1000) (f : FactOk i) :
    ∃ xs, H p = some (.lst xs) ∧ xs.length < sizeLine ∧ Itm K H0 (upd H p (.lst (xs ++ [.ref a]))) p m fs ft := h.push fs hi hm hb (fun _ z => z) (fun _ z => .inl z) (.inr f)
theorem Itm.pushI {a : Addr} {m : Nat} {i : It} (h : Itm K H0 H p n fs ft) (hi : ItAt K H a i) (hm : n + 1 ≤ m) (hb : m ≤ 1000) :
    ∃ xs, H p = some (.lst xs) ∧ xs.length < sizeLine ∧ Itm K H0 (upd H p (.lst (xs ++ [.ref a]))) p m (fs ++ [i]) ft := h.push (fs ++ [i]) hi hm hb (fun _ z => List.mem_append_left _ z) (fun j z => (List.mem_append.mp z).imp id fun z => by simpa using z) (.inl (List.mem_append_right _ (List.mem_singleton.mpr rfl)))
end
theorem lay_sc (i : Int) (h0 : 0 ≤ i) (h1 : i < 6) : ("l" : Str).length + (Str.ofString (toString i)).length ≤ sizeLine := by
  have : i = 0 ∨ i = 1 ∨ i = 2 ∨ i = 3 ∨ i = 4 ∨ i = 5 := by omega
  rcases this with rfl | rfl | rfl | rfl | rfl | rfl <;> decide +kernel
def bF (ns : List Int) (k : Nat) : Int := 1 + drawF ns (40 + k) % 6
theorem bF_b (ns : List Int) (k : Nat) : 1 ≤ bF ns k ∧ bF ns k ≤ 6 := by
  unfold bF
  have := Int.emod_nonneg (drawF ns (40 + k)) (show (6 : Int) ≠ 0 by decide)
  have := Int.emod_lt_of_pos (drawF ns (40 + k)) (show (0 : Int) < 6 by decide)
  omega
theorem log2_small {i : Int} (h0 : 0 ≤ i) (h1 : i < 100) : i.natAbs.log2 < 1920 := Nat.lt_of_le_of_lt (Nat.log2_le_self _) (by omega)
theorem upd_keep {H : Hp} {a b : Addr} {x o : HO} (n : a ≠ b) (e : H a = some x) : (upd H b o) a = some x := by rw [upd_ne n]; exact e
def layK (i : Nat) : List Str := ([[], ["s"], ["t", "w"], ["s", "u"], ["u", "t", "s"], ["w"]] : List (List Str)).getD i []
def layN (i : Nat) : Str := ("l" : Str) ++ Str.ofString (toString (0 + (i : Int)))
/-- the items that are always there -/
def fix1 (c1 c2 : Addr) : List It := [.rel "p" [.ref c1, .int 20], .rel "q" [.ref c2, .int 20]]
def fix2 (zs zt zu zw : Addr) (b0 b1 b2 : Int) : List It := [.str "s" [.str "p", .ref zs, .int b0, .int 8], .str "t" [.str "p", .ref zt, .int b1, .int 8], .str "u" [.str "p", .ref zu, .int b2, .int 8], .str "w" [.str "q", .ref zw, .int 2, .int 8]]
def fix3 (y : Nat → Addr) (n : Nat) : List It := (List.range n).map fun i => .lay (layN i) (.ref (y i))
def ft1 (c1 c2 : Addr) : List (Addr × List V) := [(c1, [.str "a", .str "b"]), (c2, [.str "c"])]
def ft2 (zs zt zu zw : Addr) : List (Addr × List V) := [(zs, [.str "a"]), (zt, [.str "b"]), (zu, [.str "b", .str "a"]), (zw, [.str "c"])]
def ft3 (y : Nat → Addr) : List (Addr × List V) := (List.range 6).map fun i => (y i, (layK i).map V.str)
/-- what the law's State has -/
structure LawSt (K : PySem.W.Frag) (C : Addr) (H : Hp) (x : Addr) (b0 b1 b2 : Int) (n : Nat) : Prop where
  ex : ∃ (c1 c2 zs zt zu zw : Addr) (y : Nat → Addr) (is : List It) (dr df ds dl : Addr) (Z : Addr → Prop) (R S : Tb) (F : Fb) (L : List (Str × V)), StAt K C Z H x dr df ds dl R F S L 300 ∧ Puts is R F S L ∧ is.length ≤ 50 ∧
    (∀ i ∈ is, i ∈ fix1 c1 c2 ++ fix2 zs zt zu zw b0 b1 b2 ++ fix3 y n ∨ FactOk i) ∧ (∀ i ∈ fix1 c1 c2 ++ fix2 zs zt zu zw b0 b1 b2 ++ fix3 y n, i ∈ is) ∧ ∀ t ∈ ft1 c1 c2 ++ ft2 zs zt zu zw ++ ft3 y, FT H t.1 t.2
def spState (K : PySem.W.Frag) (C : Addr) : Sp := fun vs H Q _ => ∃ (a : Addr) (ns : List Int), vs = [.ref a, .int 0] ∧ SqL K H a (ns.map V.int) ∧ ns.length ≤ 63 ∧
  ∀ (x : Addr) H' n, Same H H' → 1 ≤ n → n ≤ 6 → LawSt K C H' x (bF ns 0) (bF ns 1) (bF ns 2) n → Q (.ref x) H'
section
variable {P : Program} {w : World} {K : PySem.W.Frag} {mg : Str → Option Value} {base : Heap} {C : Addr}
theorem ok_state {f : Addr} {fd : FuncData} (F0 : Fun K "_law_state" "_law_state" s_law_state f fd) (T : Bl mg) (X : Txt K mg C) (St : Sta P w K mg base C)
    (D_law_draw : Kn P w K mg base 1 "_law_draw" ["script", "k"] (spDraw K)) (D_law_value : Kn P w K mg base 1 "_law_value" ["number"] spLValue) :
    FnOk P w K mg base CX0 8 f fd ["script", "start"] (spState K C) := by
  obtain ⟨fI, fdI, a0, dsI, M, GI, GI0, bI, bI0, vI0, hA0⟩ := St.ex
  refine F0.ok sc_law_state (fun vs H Q E h => ?_) (fun cdv A outer s0 H vs Q E hr h => ?_)
  · obtain ⟨a, ns, rfl, _⟩ := h
    rfl
  · obtain ⟨a, ns, rfl, hS, hlen, q⟩ := h
    have hu := hu_of hr
    refine ⟨_, (pss_cons (ps_set (i := 2) sc_law_state.nd rfl (.inl rfl) (pe_lst (pa_cons (pe_tup (pa_cons pe_str (pa_cons pe_str (pa_cons (pe_tupF (pa_cons pe_str (pa_cons pe_str pa_nil))) (pa_cons pe_int pa_nil))))) (pa_cons (pe_tup (pa_cons pe_str (pa_cons pe_str (pa_cons (pe_tupF (pa_cons pe_str pa_nil)) (pa_cons pe_int pa_nil))))) pa_nil))))
      (pss_cons (ps_for PassesOwn.never rfl (pi_range1 (by rfl) T.range (pa_cons (pe_op op_add pe_int (pe_op op_mod (pe_kn D_law_draw hr (pa_cons (pv 0) (pa_cons (pv 1) pa_nil))) pe_int)) pa_nil)) (pg_name (i := 3) sc_law_state.nd rfl (.inl rfl)) (pss_cons (ps_set (i := 4) sc_law_state.nd rfl (.inl rfl) (pe_kn D_law_draw hr (pa_cons (pv 0) (pa_cons (pe_op op_add (pe_op op_add (pv 1) pe_int) (pv 3)) pa_nil))))
      (pss_one (ps_if (pt_cmpR op_eq (pe_op op_mod (pv 4) pe_int) pe_int (nomark _)) (pss_one (ps_expr (pe_bm PySem.F.plainAttrs_list PySem.F.slot_list_append PySem.F.type_list_append mt_append (pv 2) (pa_cons (pe_tup (pa_cons pe_str (pa_cons pe_str (pa_cons (pe_tup (pa_cons (pe_kn D_law_value hr (pa_cons (pe_op op_fdiv (pv 4) pe_int) pa_nil)) pa_nil)) pa_nil)))) pa_nil)))) (pss_one (ps_expr (pe_bm PySem.F.plainAttrs_list PySem.F.slot_list_append PySem.F.type_list_append mt_append (pv 2) (pa_cons (pe_tup (pa_cons pe_str (pa_cons pe_str (pa_cons (pe_tup (pa_cons (pe_kn D_law_value hr (pa_cons (pe_op op_fdiv (pv 4) pe_int) pa_nil)) (pa_cons (pe_kn D_law_value hr (pa_cons (pe_op op_fdiv (pv 4) pe_int) pa_nil)) pa_nil))) pa_nil)))) pa_nil))))))))
      (pss_cons (ps_setLc (i := 5) (own := [("k", 3)]) (g := gName 3) (tt := tYes) rfl sc_law_state.nd rfl rfl (sw_true rfl rfl rfl (by decide +kernel)) (pi_range1 (by rfl) T.range (pa_cons pe_int pa_nil)) (blkOk_by (own := [("k", 3)]) (N := N_law_state) (sc := defScope s_law_state) (by decide +kernel)) (fun _ _ _ _ _ => pg_name (i := 3) sc_law_state.nd rfl (Or.inl rfl)) (fun _ _ _ _ _ => pts_nil) (fun _ _ _ _ _ => (pe_op op_add pe_int (pe_op op_mod (pe_kn D_law_draw hr (pa_cons (pv 0) (pa_cons (pe_op op_add (pe_op op_add (pv 1) pe_int) (pv 3)) pa_nil))) pe_int))))
      (pss_cons (ps_expr (pe_bm PySem.F.plainAttrs_list PySem.F.slot_list_append PySem.F.type_list_append mt_append (pv 2) (pa_cons (pe_tup (pa_cons pe_str (pa_cons pe_str (pa_cons pe_str (pa_cons (pe_tupF (pa_cons pe_str pa_nil)) (pa_cons (pe_ix ix_list (pv 5) pe_int (fun _ _ => rfl)) (pa_cons pe_int pa_nil))))))) pa_nil)))
      (pss_cons (ps_expr (pe_bm PySem.F.plainAttrs_list PySem.F.slot_list_append PySem.F.type_list_append mt_append (pv 2) (pa_cons (pe_tup (pa_cons pe_str (pa_cons pe_str (pa_cons pe_str (pa_cons (pe_tupF (pa_cons pe_str pa_nil)) (pa_cons (pe_ix ix_list (pv 5) pe_int (fun _ _ => rfl)) (pa_cons pe_int pa_nil))))))) pa_nil)))
      (pss_cons (ps_expr (pe_bm PySem.F.plainAttrs_list PySem.F.slot_list_append PySem.F.type_list_append mt_append (pv 2) (pa_cons (pe_tup (pa_cons pe_str (pa_cons pe_str (pa_cons pe_str (pa_cons (pe_tupF (pa_cons pe_str (pa_cons pe_str pa_nil))) (pa_cons (pe_ix ix_list (pv 5) pe_int (fun _ _ => rfl)) (pa_cons pe_int pa_nil))))))) pa_nil)))
      (pss_cons (ps_expr (pe_bm PySem.F.plainAttrs_list PySem.F.slot_list_append PySem.F.type_list_append mt_append (pv 2) (pa_cons (pe_tup (pa_cons pe_str (pa_cons pe_str (pa_cons pe_str (pa_cons (pe_tupF (pa_cons pe_str pa_nil)) (pa_cons pe_int (pa_cons pe_int pa_nil))))))) pa_nil)))
      (pss_cons (ps_set (i := 6) sc_law_state.nd rfl (.inl rfl) (pe_lst (pa_cons (pe_tupF pa_nil) (pa_cons (pe_tupF (pa_cons pe_str pa_nil)) (pa_cons (pe_tupF (pa_cons pe_str (pa_cons pe_str pa_nil))) (pa_cons (pe_tupF (pa_cons pe_str (pa_cons pe_str pa_nil))) (pa_cons (pe_tupF (pa_cons pe_str (pa_cons pe_str (pa_cons pe_str pa_nil)))) (pa_cons (pe_tupF (pa_cons pe_str pa_nil)) pa_nil))))))))
      (pss_cons (ps_for PassesOwn.never rfl (pi_range1 (by rfl) T.range (pa_cons (pe_op op_add pe_int (pe_op op_mod (pe_kn D_law_draw hr (pa_cons (pv 0) (pa_cons (pe_op op_add (pv 1) pe_int) pa_nil))) pe_int)) pa_nil)) (pg_name (i := 3) sc_law_state.nd rfl (.inl rfl)) (pss_one (ps_expr (pe_bm PySem.F.plainAttrs_list PySem.F.slot_list_append PySem.F.type_list_append mt_append (pv 2) (pa_cons (pe_tup (pa_cons pe_str (pa_cons (pe_op op_add_str pe_str (pe_callTy call_str_int (by rfl) T.str (by decide +kernel) (pa_cons (pv 3) pa_nil))) (pa_cons (pe_ix ix_list (pv 6) (pv 3) (fun _ _ => rfl)) pa_nil)))) pa_nil)))))
      (pss_one (ps_ret (pe_make M GI hr (by rfl) X.mgC bI .nil pass0 (pa_cons (pv 2) pa_nil))))))))))))), ?_⟩
    have dn := fun k => drawF_nn ns k
    have lit : ∀ {H0 H : Hp} {p : Addr} {n : Nat} {fs : List It} {ft : List (Addr × List V)}, Itm K H0 H p n fs ft → ∃ xs, SqL K H p xs := fun h => by
      obtain ⟨its, e, _⟩ := h.ex
      exact ⟨_, SqL.of e⟩
    -- the two relations
    refine ⟨sz 2, fun c1 o1 nc1 d1 y1 => ?_⟩
    have s1 := Same.new (o := .frz o1 (.tup [V.str "a", .str "b"])) nc1
    have g1 := upd_same (H := H) (a := c1) (o := .frz o1 (.tup [V.str "a", .str "b"]))
    generalize (upd H c1 (.frz o1 (.tup [V.str "a", .str "b"]))) = H1 at *
    refine ⟨sz 4, fun t1 nt1 => ?_⟩
    have sa := Same.new (o := .tup [V.str "relation", .str "p", .ref c1, .int 20]) nt1
    have s2 := s1.trans sa
    have e2 := upd_same (H := H1) (a := t1) (o := .tup [V.str "relation", .str "p", .ref c1, .int 20])
    have g2 := sa _ _ g1
    generalize (upd H1 t1 (.tup [V.str "relation", .str "p", .ref c1, .int 20])) = H2 at *
    refine ⟨sz 1, fun c2 o2 nc2 d2 y2 => ?_⟩
    have sb := Same.new (o := .frz o2 (.tup [V.str "c"])) nc2
    have s3 := s2.trans sb
    have e3 := sb _ _ e2
    have g3 := sb _ _ g2
    have k3 := upd_same (H := H2) (a := c2) (o := .frz o2 (.tup [V.str "c"]))
    generalize (upd H2 c2 (.frz o2 (.tup [V.str "c"]))) = H3 at *
    refine ⟨sz 4, fun t2 nt2 => ?_⟩
    have sc := Same.new (o := .tup [V.str "relation", .str "q", .ref c2, .int 20]) nt2
    have s4 := s3.trans sc
    have e4 := sc _ _ e3
    have g4 := sc _ _ g3
    have k4 := sc _ _ k3
    have f4 := upd_same (H := H3) (a := t2) (o := .tup [V.str "relation", .str "q", .ref c2, .int 20])
    generalize (upd H3 t2 (.tup [V.str "relation", .str "q", .ref c2, .int 20])) = H4 at *
    refine ⟨sz 2, fun p np => ?_⟩
    have sd := Same.new (o := .lst [V.ref t1, .ref t2]) np
    have s5 := s4.trans sd
    have e5 := sd _ _ e4
    have f5 := sd _ _ f4
    have g5 := sd _ _ g4
    have k5 := sd _ _ k4
    have h5 := upd_same (H := H4) (a := p) (o := .lst [V.ref t1, .ref t2])
    generalize (upd H4 p (.lst [V.ref t1, .ref t2])) = H5 at *
    have itm0 : Itm K H H5 p 2 (fix1 c1 c2) (ft1 c1 c2) :=
      ⟨s5, s4.free np, ⟨[(t1, .rel "p" [V.ref c1, .int 20]), (t2, .rel "q" [V.ref c2, .int 20])], h5, (fun t m => by
        rcases List.mem_cons.mp m with rfl | m
        · exact SqT.of e5
        · rcases List.mem_cons.mp m with rfl | m
          · exact SqT.of f5
          · nomatch m), Nat.le_refl _, (fun t m => by
        rcases List.mem_cons.mp m with rfl | m
        · exact .inl List.mem_cons_self
        · rcases List.mem_cons.mp m with rfl | m
          · exact .inl (List.mem_cons_of_mem _ List.mem_cons_self)
          · nomatch m), fun i m => by
        rcases List.mem_cons.mp m with rfl | m
        · exact ⟨t1, List.mem_cons_self⟩
        · rcases List.mem_cons.mp m with rfl | m
          · exact ⟨t2, List.mem_cons_of_mem _ List.mem_cons_self⟩
          · nomatch m⟩, fun t m => by
        rcases List.mem_cons.mp m with rfl | m
        · exact ⟨o1, g5, d1, y1⟩
        · rcases List.mem_cons.mp m with rfl | m
          · exact ⟨o2, k5, d2, y2⟩
          · nomatch m⟩
    clear s1 s2 s3 s4 s5 e2 e3 e4 f4 e5 f5 g1 g2 g3 g4 g5 k3 k4 k5 sa sb sc sd h5
    -- the facts
    have d30 := Int.emod_nonneg (drawF ns 0) (show (30 : Int) ≠ 0 by decide)
    have d30' := Int.emod_lt_of_pos (drawF ns 0) (show (0 : Int) < 30 by decide)
    refine ⟨_, rfl, _, rfl, a, ns, 0, rfl, itm0.same.seq hS, hlen, by decide, _, _, rfl, rfl, (by show (0 : Int) < 30; decide), _, _, rfl, rfl, _, rfl, by omega, by omega, ?_⟩
    refine for_range (lo := 0) (fun i σ H' => ∃ v3 v4, σ = [some (.ref a), some (.int 0), some (.ref p), v3, v4, none, none] ∧ Itm K H H' p (2 + i) (fix1 c1 c2) (ft1 c1 c2)) ⟨none, none, rfl, itm0⟩ ?_ ?_
    · rintro i σ H' hi ⟨v3, v4, rfl, itm⟩
      have hi' : i < 40 := by omega
      refine ⟨_, rfl, _, rfl, _, _, rfl, rfl, _, rfl, _, _, rfl, rfl, a, ns, 1 + i, congrArg (fun z : Int => [V.ref a, V.int z]) (show (0 : Int) + 1 + (0 + (i : Int)) = ((1 + i : Nat) : Int) by omega), itm.same.seq hS, hlen, by omega, ?_⟩
      refine ⟨_, rfl, _, _, rfl, rfl, (by show (0 : Int) < 5; decide), rfl, _, rfl, ite2 (fun _ => ?_) (fun _ => ?_)⟩
      · refine ⟨_, rfl, .inl ⟨rfl, lit itm⟩, _, rfl, _, _, rfl, rfl, ⟨by decide, by decide⟩, _, rfl, fun v sv => ⟨sz 1, fun t nt => ?_⟩⟩
        have m1 := itm.other (Same.new (o := .tup [v]) nt)
        have e1 := upd_same (H := H') (a := t) (o := .tup [v])
        generalize (upd H' t (.tup [v])) = H6 at *
        refine ⟨sz 3, fun u nu => ?_⟩
        have m2 := m1.other (Same.new (o := .tup [V.str "fact", .str "q", .ref t]) nu)
        have e1' := (Same.new (o := .tup [V.str "fact", .str "q", .ref t]) nu) _ _ e1
        have e2 := upd_same (H := H6) (a := u) (o := .tup [V.str "fact", .str "q", .ref t])
        generalize (upd H6 u (.tup [V.str "fact", .str "q", .ref t])) = H7 at *
        obtain ⟨xs, ex, lx, m3⟩ := m2.pushF (i := .fact "q" t [v]) (m := 2 + (i + 1)) ⟨SqT.of e2, SqT.of e1', (fun y my => by rw [List.mem_singleton.mp my]; exact LV_sc sv), (show (1 : Nat) ≤ 10 by decide)⟩ (by omega) (by omega) ⟨_, _, _, rfl, .inl ⟨rfl, rfl⟩, fun y my => by rw [List.mem_singleton.mp my]; exact sv⟩
        exact ⟨p, xs, _, rfl, rfl, ex, lx, _, _, rfl, m3⟩
      · refine ⟨_, rfl, .inl ⟨rfl, lit itm⟩, _, rfl, _, _, rfl, rfl, ⟨by decide, by decide⟩, _, rfl, fun v sv => ?_⟩
        refine ⟨_, rfl, _, _, rfl, rfl, ⟨by decide, by decide⟩, _, rfl, fun v2 sv2 => ⟨sz 2, fun t nt => ?_⟩⟩
        have m1 := itm.other (Same.new (o := .tup [v, v2]) nt)
        have e1 := upd_same (H := H') (a := t) (o := .tup [v, v2])
        generalize (upd H' t (.tup [v, v2])) = H6 at *
        refine ⟨sz 3, fun u nu => ?_⟩
        have m2 := m1.other (Same.new (o := .tup [V.str "fact", .str "p", .ref t]) nu)
        have e1' := (Same.new (o := .tup [V.str "fact", .str "p", .ref t]) nu) _ _ e1
        have e2 := upd_same (H := H6) (a := u) (o := .tup [V.str "fact", .str "p", .ref t])
        generalize (upd H6 u (.tup [V.str "fact", .str "p", .ref t])) = H7 at *
        obtain ⟨xs, ex, lx, m3⟩ := m2.pushF (i := .fact "p" t [v, v2]) (m := 2 + (i + 1)) ⟨SqT.of e2, SqT.of e1', (fun y my => by
          rcases List.mem_cons.mp my with rfl | my
          · exact LV_sc sv
          · rw [List.mem_singleton.mp my]; exact LV_sc sv2), (show (2 : Nat) ≤ 10 by decide)⟩ (by omega) (by omega) ⟨_, _, _, rfl, .inr ⟨rfl, rfl⟩, fun y my => by
          rcases List.mem_cons.mp my with rfl | my
          · exact sv
          · rw [List.mem_singleton.mp my]; exact sv2⟩
        exact ⟨p, xs, _, rfl, rfl, ex, lx, _, _, rfl, m3⟩
    · rintro σ H' ⟨v3, v4, rfl, itm⟩
      have itm : Itm K H H' p 40 (fix1 c1 c2) (ft1 c1 c2) := by
        obtain ⟨its, e, ok, l, a1, a2⟩ := itm.ex
        exact ⟨itm.same, itm.nw, ⟨its, e, ok, by omega, a1, a2⟩, itm.ft⟩
      -- the buckets
      refine ⟨_, rfl, by decide, by decide, fun D nD => ?_⟩
      have Dnp : D ≠ p := fun z => by
        obtain ⟨its, e, _⟩ := itm.ex
        rw [z, e] at nD
        cases nD
      refine lc_mk (walk_range (lo := 0)) (fun k => V.int (bF ns k)) (by decide) nD (fun _ _ => trivial) (fun i x H2 H2' N hi s2 yy fin => ?_) fun H' s2 eD => ?_
      · obtain ⟨rfl, ex⟩ := yy
        subst ex
        have hi' : i < 3 := hi
        exact ⟨rfl, _, rfl, _, rfl, _, _, rfl, rfl, _, rfl, _, _, rfl, rfl, a, ns, 40 + i, congrArg (fun z : Int => [V.ref a, V.int z]) (show (0 : Int) + 40 + (0 + (i : Int)) = ((40 + i : Nat) : Int) by omega), (itm.same.trans s2).seq hS, hlen, by omega, _, _, rfl, rfl, (by show (0 : Int) < 6; decide), _, _, rfl, rfl, fin _ (Same.refl _)⟩
      replace itm := itm.other s2
      have eD : H' D = some (.lst [V.int (bF ns 0), .int (bF ns 1), .int (bF ns 2)]) := eD
      refine ⟨_, rfl, .inl ⟨rfl, lit itm⟩, sz 1, fun zs oz na dz yz => ?_⟩
      replace itm := itm.addF (xs := [V.str "a"]) na dz yz
      replace eD := (Same.new (o := .frz oz (.tup [V.str "a"])) na) _ _ eD
      generalize (upd H' zs (.frz oz (.tup [V.str "a"]))) = H' at *
      clear na dz yz oz
      refine ⟨_, rfl, D, _, 0, .int (bF ns 0), rfl, rfl, SqL.of eD, at_of (j := 0) rfl rfl, sz 6, fun u nu => ?_⟩
      replace itm := itm.other (Same.new (o := .tup [V.str "structure", .str "s", .str "p", .ref zs, V.int (bF ns 0), .int 8]) nu)
      replace eD := (Same.new (o := .tup [V.str "structure", .str "s", .str "p", .ref zs, V.int (bF ns 0), .int 8]) nu) _ _ eD
      have eu := upd_same (H := H') (a := u) (o := .tup [V.str "structure", .str "s", .str "p", .ref zs, V.int (bF ns 0), .int 8])
      generalize (upd H' u (.tup [V.str "structure", .str "s", .str "p", .ref zs, V.int (bF ns 0), .int 8])) = H' at *
      obtain ⟨xs, ex, lx, itm2⟩ := itm.pushI (i := .str "s" [V.str "p", .ref zs, V.int (bF ns 0), .int 8]) (m := 41) (SqT.of eu) (by omega) (by omega)
      refine ⟨p, xs, _, rfl, rfl, ex, lx, ?_⟩
      replace eD := upd_keep Dnp eD (o := .lst (xs ++ [.ref u]))
      generalize (upd H' p (.lst (xs ++ [.ref u]))) = H' at *
      clear ex eu itm lx nu
      have itm := itm2
      clear itm2 xs
      refine ⟨_, rfl, .inl ⟨rfl, lit itm⟩, sz 1, fun zt oz na dz yz => ?_⟩
      replace itm := itm.addF (xs := [V.str "b"]) na dz yz
      replace eD := (Same.new (o := .frz oz (.tup [V.str "b"])) na) _ _ eD
      generalize (upd H' zt (.frz oz (.tup [V.str "b"]))) = H' at *
      clear na dz yz oz
      refine ⟨_, rfl, D, _, 1, .int (bF ns 1), rfl, rfl, SqL.of eD, at_of (j := 1) rfl rfl, sz 6, fun u nu => ?_⟩
      replace itm := itm.other (Same.new (o := .tup [V.str "structure", .str "t", .str "p", .ref zt, V.int (bF ns 1), .int 8]) nu)
      replace eD := (Same.new (o := .tup [V.str "structure", .str "t", .str "p", .ref zt, V.int (bF ns 1), .int 8]) nu) _ _ eD
      have eu := upd_same (H := H') (a := u) (o := .tup [V.str "structure", .str "t", .str "p", .ref zt, V.int (bF ns 1), .int 8])
      generalize (upd H' u (.tup [V.str "structure", .str "t", .str "p", .ref zt, V.int (bF ns 1), .int 8])) = H' at *
      obtain ⟨xs, ex, lx, itm2⟩ := itm.pushI (i := .str "t" [V.str "p", .ref zt, V.int (bF ns 1), .int 8]) (m := 42) (SqT.of eu) (by omega) (by omega)
      refine ⟨p, xs, _, rfl, rfl, ex, lx, ?_⟩
      replace eD := upd_keep Dnp eD (o := .lst (xs ++ [.ref u]))
      generalize (upd H' p (.lst (xs ++ [.ref u]))) = H' at *
      clear ex eu itm lx nu
      have itm := itm2
      clear itm2 xs
      refine ⟨_, rfl, .inl ⟨rfl, lit itm⟩, sz 2, fun zu oz na dz yz => ?_⟩
      replace itm := itm.addF (xs := [V.str "b", .str "a"]) na dz yz
      replace eD := (Same.new (o := .frz oz (.tup [V.str "b", .str "a"])) na) _ _ eD
      generalize (upd H' zu (.frz oz (.tup [V.str "b", .str "a"]))) = H' at *
      clear na dz yz oz
      refine ⟨_, rfl, D, _, 2, .int (bF ns 2), rfl, rfl, SqL.of eD, at_of (j := 2) rfl rfl, sz 6, fun u nu => ?_⟩
      replace itm := itm.other (Same.new (o := .tup [V.str "structure", .str "u", .str "p", .ref zu, V.int (bF ns 2), .int 8]) nu)
      replace eD := (Same.new (o := .tup [V.str "structure", .str "u", .str "p", .ref zu, V.int (bF ns 2), .int 8]) nu) _ _ eD
      have eu := upd_same (H := H') (a := u) (o := .tup [V.str "structure", .str "u", .str "p", .ref zu, V.int (bF ns 2), .int 8])
      generalize (upd H' u (.tup [V.str "structure", .str "u", .str "p", .ref zu, V.int (bF ns 2), .int 8])) = H' at *
      obtain ⟨xs, ex, lx, itm2⟩ := itm.pushI (i := .str "u" [V.str "p", .ref zu, V.int (bF ns 2), .int 8]) (m := 43) (SqT.of eu) (by omega) (by omega)
      refine ⟨p, xs, _, rfl, rfl, ex, lx, ?_⟩
      replace eD := upd_keep Dnp eD (o := .lst (xs ++ [.ref u]))
      generalize (upd H' p (.lst (xs ++ [.ref u]))) = H' at *
      clear ex eu itm lx nu
      have itm := itm2
      clear itm2 xs
      refine ⟨_, rfl, .inl ⟨rfl, lit itm⟩, sz 1, fun zw oz na dz yz => ?_⟩
      replace itm := itm.addF (xs := [V.str "c"]) na dz yz
      generalize (upd H' zw (.frz oz (.tup [V.str "c"]))) = H' at *
      clear na dz yz oz
      refine ⟨sz 6, fun u nu => ?_⟩
      replace itm := itm.other (Same.new (o := .tup [V.str "structure", .str "w", .str "q", .ref zw, V.int 2, .int 8]) nu)
      have eu := upd_same (H := H') (a := u) (o := .tup [V.str "structure", .str "w", .str "q", .ref zw, V.int 2, .int 8])
      generalize (upd H' u (.tup [V.str "structure", .str "w", .str "q", .ref zw, V.int 2, .int 8])) = H' at *
      obtain ⟨xs, ex, lx, itm2⟩ := itm.pushI (i := .str "w" [V.str "q", .ref zw, V.int 2, .int 8]) (m := 44) (SqT.of eu) (by omega) (by omega)
      refine ⟨p, xs, _, rfl, rfl, ex, lx, ?_⟩
      generalize (upd H' p (.lst (xs ++ [.ref u]))) = H' at *
      clear ex eu itm lx nu eD
      have itm := itm2
      clear itm2 xs
      refine ⟨sz 0, fun y0 oz na dz yz => ?_⟩
      replace itm := itm.addF (xs := ([] : List V)) na dz yz
      generalize (upd H' y0 (.frz oz (.tup ([] : List V)))) = H' at *
      clear na dz yz oz
      refine ⟨sz 1, fun y1 oz na dz yz => ?_⟩
      replace itm := itm.addF (xs := [V.str "s"]) na dz yz
      generalize (upd H' y1 (.frz oz (.tup [V.str "s"]))) = H' at *
      clear na dz yz oz
      refine ⟨sz 2, fun y2 oz na dz yz => ?_⟩
      replace itm := itm.addF (xs := [V.str "t", .str "w"]) na dz yz
      generalize (upd H' y2 (.frz oz (.tup [V.str "t", .str "w"]))) = H' at *
      clear na dz yz oz
      refine ⟨sz 2, fun y3 oz na dz yz => ?_⟩
      replace itm := itm.addF (xs := [V.str "s", .str "u"]) na dz yz
      generalize (upd H' y3 (.frz oz (.tup [V.str "s", .str "u"]))) = H' at *
      clear na dz yz oz
      refine ⟨sz 3, fun y4 oz na dz yz => ?_⟩
      replace itm := itm.addF (xs := [V.str "u", .str "t", .str "s"]) na dz yz
      generalize (upd H' y4 (.frz oz (.tup [V.str "u", .str "t", .str "s"]))) = H' at *
      clear na dz yz oz
      refine ⟨sz 1, fun y5 oz na dz yz => ?_⟩
      replace itm := itm.addF (xs := [V.str "w"]) na dz yz
      generalize (upd H' y5 (.frz oz (.tup [V.str "w"]))) = H' at *
      clear na dz yz oz
      refine ⟨sz 6, fun la nla => ?_⟩
      have lap : la ≠ p := fun z => by
        obtain ⟨its, e, _⟩ := itm.ex
        rw [z, e] at nla
        cases nla
      replace itm := itm.other (Same.new (o := .lst [V.ref y0, .ref y1, .ref y2, .ref y3, .ref y4, .ref y5]) nla)
      have el := upd_same (H := H') (a := la) (o := .lst [V.ref y0, .ref y1, .ref y2, .ref y3, .ref y4, .ref y5])
      generalize (upd H' la (.lst [V.ref y0, .ref y1, .ref y2, .ref y3, .ref y4, .ref y5])) = H' at *
      clear nla
      let yf : Nat → Addr := fun i => [y0, y1, y2, y3, y4, y5].getD i 0
      have itm : Itm K H H' p 44 (fix1 c1 c2 ++ fix2 zs zt zu zw (bF ns 0) (bF ns 1) (bF ns 2) ++ fix3 yf 0) (ft1 c1 c2 ++ ft2 zs zt zu zw ++ ft3 yf) := itm
      have d6 := Int.emod_nonneg (drawF ns 43) (show (6 : Int) ≠ 0 by decide)
      have d6' := Int.emod_lt_of_pos (drawF ns 43) (show (0 : Int) < 6 by decide)
      refine ⟨_, rfl, _, rfl, _, _, rfl, rfl, a, ns, 43, rfl, itm.same.seq hS, hlen, by decide, _, _, rfl, rfl, (by show (0 : Int) < 6; decide), _, _, rfl, rfl, _, rfl, by omega, by omega, ?_⟩
      refine for_range (lo := 0) (fun i σ H' => ∃ v3 v4 v5, σ = [some (.ref a), some (.int 0), some (.ref p), v3, v4, v5, some (.ref la)] ∧ H' la = some (.lst [V.ref y0, .ref y1, .ref y2, .ref y3, .ref y4, .ref y5]) ∧ Itm K H H' p (44 + i) (fix1 c1 c2 ++ fix2 zs zt zu zw (bF ns 0) (bF ns 1) (bF ns 2) ++ fix3 yf i) (ft1 c1 c2 ++ ft2 zs zt zu zw ++ ft3 yf)) ⟨_, _, _, rfl, el, itm⟩ ?_ ?_
      · clear itm el
        rintro i σ H' hi ⟨v3, v4, v5, rfl, el, itm⟩
        have hi' : i < 6 := by omega
        have ey : ([V.ref y0, .ref y1, .ref y2, .ref y3, .ref y4, .ref y5] : List V)[i]? = some (.ref (yf i)) := by
          match i, hi' with
          | 0, _ => rfl
          | 1, _ => rfl
          | 2, _ => rfl
          | 3, _ => rfl
          | 4, _ => rfl
          | 5, _ => rfl
        refine ⟨_, rfl, .inl ⟨rfl, lit itm⟩, _, rfl, _, rfl, log2_small (by omega) (by omega), _, _, rfl, rfl, lay_sc _ (by omega) (by omega), _, rfl, _, rfl, la, _, _, .ref (yf i), rfl, rfl, SqL.of el, at_of (j := i) (by omega) ey, sz 3, fun u nu => ?_⟩
        have s9 := Same.new (o := .tup [.str "layout", .str (layN i), .ref (yf i)]) nu
        have e9 := upd_same (H := H') (a := u) (o := .tup [.str "layout", .str (layN i), .ref (yf i)])
        have el9 := s9 _ _ el
        replace itm := itm.other s9
        obtain ⟨xs, ex, lx, m3⟩ := itm.pushI (i := .lay (layN i) (.ref (yf i))) (m := 44 + (i + 1)) (SqT.of e9) (by omega) (by omega)
        refine ⟨p, xs, _, rfl, rfl, ex, lx, _, _, _, rfl, upd_keep lap el9, ?_⟩
        have ef : fix3 yf (i + 1) = fix3 yf i ++ [.lay (layN i) (.ref (yf i))] := by
          unfold fix3
          rw [List.range_succ, List.map_append]
          rfl
        rw [ef, ← List.append_assoc]
        exact m3
      · rintro σ H' ⟨v3, v4, v5, rfl, el, itm⟩
        obtain ⟨its, e, iok, l, a1, a2⟩ := itm.ex
        refine ⟨_, rfl, fun x dx nx ndx nex => ⟨x, p, dx, its, rfl, upd_same, ?_, fun u mu => ?_, by omega, fun ar af as_ al R1 S1 F1 L1 H8 st8 pu gw8 => ?_⟩⟩
        · exact SqL.of (same_make (C := C) nx ndx _ _ e)
        · exact (iok u mu).tk (Tk.same (same_make nx ndx))
        · have s8 := same_made nx ndx gw8
          refine ⟨rfl, q x H8 (1 + drawF ns 43 % 6).toNat (itm.same.trans s8) ?_ ?_ ⟨c1, c2, zs, zt, zu, zw, yf, its.map (·.2), _, _, _, _, _, R1, S1, F1, L1, st8, pu, ?_, ?_, ?_, ?_⟩⟩
          · omega
          · omega
          · rw [List.length_map]
            omega
          · intro i mi
            obtain ⟨t, mt, rfl⟩ := List.mem_map.mp mi
            exact a1 t mt
          · intro i mi
            obtain ⟨b, mb⟩ := a2 i mi
            exact List.mem_map.mpr ⟨_, mb, rfl⟩
          · exact fun t mt => (Tk.same (K := K) s8).x _ _ (itm.ft t mt)
end
end K1
namespace K1
open PySem PySem.Spec PyProof.Rows L2 Ow Tlz
/-! data that can be shown -/
structure Sd (k wt : Nat) (d : PyData) : Prop where
  s : d.showable = true
  c : d.canLay0 = true
  dp : d.depth ≤ k
  w : d.weight ≤ wt
  i : d.intsShort 13 = true
theorem Sd.up {k j wt wu : Nat} {d : PyData} (h : Sd k wt d) (l : k ≤ j) (m : wt ≤ wu) : Sd j wu d := ⟨h.s, h.c, Nat.le_trans h.dp l, Nat.le_trans h.w m, h.i⟩
theorem Sd.int {i : Int} (h : i.natAbs < 1000) : Sd 0 20 (.int i) := by
  refine ⟨?_, rfl, Nat.le_refl _, ?_, ?_⟩
  · rw [PyData.showable]
    exact decide_eq_true (Nat.lt_of_le_of_lt (Nat.log2_le_self _) (Nat.lt_trans h (by decide)))
  · rw [PyData.weight]
    split
    · exact Nat.zero_le _
    · have := (Nat.log2_lt (n := i.natAbs) (k := 10) (fun z => by rename_i n; exact n (by simp; omega))).mpr (by omega)
      omega
  · rw [PyData.intsShort]
    exact decide_eq_true (PyData.shown_int_le (Nat.lt_trans h (by decide)))
theorem Sd.str {z : Str} (h : PyData.strOk z = true) (l : z.cps.size ≤ 20) : Sd 0 20 (.str z) := by
  refine ⟨rfl, ?_, Nat.le_refl _, ?_, rfl⟩
  · rw [PyData.canLay0]
    exact h
  · rw [PyData.weight]
    exact l
theorem Sd.all {k wt n : Nat} : ∀ {ds : List PyData}, (∀ d ∈ ds, Sd k wt d) → ds.length ≤ n → PyData.showableAll ds = true ∧ PyData.canLayAll0 ds = true ∧ PyData.depthAll ds ≤ k ∧ PyData.weightAll ds ≤ n * (wt + 1) ∧ PyData.intsShortAll 13 ds = true := by
  intro ds
  induction ds generalizing n with
  | nil => intro _ _; exact ⟨rfl, rfl, Nat.zero_le _, Nat.zero_le _, rfl⟩
  | cons d r ih =>
    intro h l
    cases n with
    | zero => simp at l
    | succ n =>
      obtain ⟨a1, a2, a3, a4, a5⟩ := ih (n := n) (fun e m => h e (List.mem_cons_of_mem _ m)) (by simpa using l)
      obtain ⟨b1, b2, b3, b4, b5⟩ := h d List.mem_cons_self
      refine ⟨by rw [PyData.showableAll, a1, b1]; rfl, by rw [PyData.canLayAll0, a2, b2]; rfl, ?_, ?_, by rw [PyData.intsShortAll, a5, b5]; rfl⟩
      · show max d.depth (PyData.depthAll r) ≤ k
        omega
      · rw [PyData.weightAll, Nat.succ_mul]
        omega
theorem Sd.tup {k wt : Nat} {ds : List PyData} (n : Nat) (h : ∀ d ∈ ds, Sd k wt d) (l : ds.length ≤ n) : Sd (k + 1) (n * (wt + 1)) (.tuple ds) := by
  obtain ⟨a1, a2, a3, a4, a5⟩ := Sd.all h l
  exact ⟨by rw [PyData.showable]; exact a1, by rw [PyData.canLay0]; exact a2, by rw [PyData.depth]; omega, by rw [PyData.weight]; exact a4, by rw [PyData.intsShort]; exact a5⟩
theorem Sd.list {k wt : Nat} {ds : List PyData} (n : Nat) (h : ∀ d ∈ ds, Sd k wt d) (l : ds.length ≤ n) : Sd (k + 1) (n * (wt + 1)) (.list ds) := by
  obtain ⟨a1, a2, a3, a4, a5⟩ := Sd.all h l
  exact ⟨by rw [PyData.showable]; exact a1, by rw [PyData.canLay0]; exact a2, by rw [PyData.depth]; omega, by rw [PyData.weight]; exact a4, by rw [PyData.intsShort]; exact a5⟩
theorem Sd.show {k wt : Nat} {d : PyData} (h : Sd k wt d) (hk : k ≤ 60) (hw : wt ≤ 2 ^ 20) : d.showable = true ∧ d.hasDict = false ∧ d.depth ≤ 60 ∧ d.shown.length ≤ sizeLine := by
  have hd := h.dp
  have hw' := h.w
  refine ⟨h.s, PyData.hasDict_of_canLay _ h.c, by omega, PyData.shown_fits_of_layable0 (B := 13) (by decide) (by decide) ?_ h.i⟩
  unfold PyData.layable0
  rw [h.c, decide_eq_true (show d.depth ≤ 64 by omega), decide_eq_true (show d.weight ≤ 2 ^ 20 by omega)]
  rfl
/-! data of items -/
def vDt : V → PyData
  | .int i => .int i
  | .str z => .str z
  | _ => .none
def rwD (row : List V) : PyData := .tuple (row.map vDt)
theorem rwD_dp {K : PySem.W.Frag} {H : Hp} {a : Addr} {row : List V} (h : SqT K H a row) (lv : ∀ v ∈ row, Scal v) : Dp K H (.ref a) (rwD row) := by
  refine .tup h ?_
  clear h
  induction row with
  | nil => exact .nil
  | cons v r ih =>
    refine .cons ?_ (ih fun u m => lv u (List.mem_cons_of_mem _ m))
    rcases lv v List.mem_cons_self with ⟨i, rfl, _⟩ | ⟨z, rfl, _⟩
    · exact .int i
    · exact .str z
def dat (k : Kt) (ds : List PyData) : PyData :=
  if k.1 = 0 then .tuple (.str "relation" :: .str k.2.1 :: ds) else if k.1 = 1 then .tuple [.str "fact", .str k.2.1, rwD k.2.2.1] else if k.1 = 2 then .tuple (.str "structure" :: .str k.2.1 :: ds) else .tuple (.str "layout" :: .str k.2.1 :: ds)
def ItX (K : PySem.W.Frag) (H : Hp) (k : Kt) (d : PyData) : Prop := ∃ ds, DpAll K H k.2.2.2 ds ∧ noLs ds = true ∧ d = dat k ds
theorem ItX.same {K : PySem.W.Frag} {H H' : Hp} {k : Kt} {d : PyData} (h : ItX K H k d) (s : Same H H') : ItX K H' k d := by
  obtain ⟨ds, h1, h2, h3⟩ := h
  exact ⟨ds, DpAll.tk (Tk.same s) ds _ h2 h1, h2, h3⟩
theorem item_dp {K : PySem.W.Frag} {H : Hp} {a : Addr} {i : It} {d : PyData} (h : ItAt K H a i) (x : ItX K H (ier i) d) : Dp K H (.ref a) d := by
  obtain ⟨ds, h1, h2, rfl⟩ := x
  cases i with
  | rel n c => exact .tup h (.cons (.str _) (.cons (.str _) h1))
  | fact n r row =>
    obtain ⟨a1, a2, a3, _⟩ := h
    exact .tup a1 (.cons (.str _) (.cons (.str _) (.cons (rwD_dp a2 a3) .nil)))
  | str n c => exact .tup h (.cons (.str _) (.cons (.str _) h1))
  | lay n v => exact .tup h (.cons (.str _) (.cons (.str _) h1))
/-- the data of all items -/
theorem items_dp {K : PySem.W.Frag} {H : Hp} : ∀ {its : Its} {ds : List PyData}, (∀ t ∈ its, ItAt K H t.1 t.2) → its.length = ds.length → (∀ (i : Nat) t d, its[i]? = some t → ds[i]? = some d → ItX K H (te t) d) → DpAll K H (irf its) ds
  | [], [], _, _, _ => .nil
  | [], _ :: _, _, l, _ => by simp at l
  | _ :: _, [], _, l, _ => by simp at l
  | t :: r, d :: ds, h, l, x => .cons (item_dp (h t List.mem_cons_self) (x 0 t d rfl rfl)) (items_dp (fun u m => h u (List.mem_cons_of_mem _ m)) (by simpa using l) fun i u e h1 h2 => x (i + 1) u e (by simpa using h1) (by simpa using h2))
theorem pick_ds {K : PySem.W.Frag} {H : Hp} {Pd : PyData → Prop} : ∀ {ks : List Kt}, (∀ k ∈ ks, ∃ d, ItX K H k d ∧ Pd d) → ∃ ds : List PyData, ds.length = ks.length ∧ (∀ (i : Nat) k d, ks[i]? = some k → ds[i]? = some d → ItX K H k d) ∧ ∀ d ∈ ds, Pd d
  | [], _ => ⟨[], rfl, fun i k d h => by simp at h, fun d m => nomatch m⟩
  | k :: r, h => by
    obtain ⟨ds, l, a, b⟩ := pick_ds (ks := r) fun u m => h u (List.mem_cons_of_mem _ m)
    obtain ⟨d, hd, pd⟩ := h k List.mem_cons_self
    refine ⟨d :: ds, by simp [l], fun i u e h1 h2 => ?_, fun e m => ?_⟩
    · cases i with
      | zero =>
        simp at h1 h2
        subst h1
        subst h2
        exact hd
      | succ i => exact a i u e (by simpa using h1) (by simpa using h2)
    · rcases List.mem_cons.mp m with rfl | m
      · exact pd
      · exact b e m
theorem Puts.len {is : List It} {R S : Tb} {F : Fb} {L : List (Str × V)} (h : Puts is R F S L) : R.length ≤ is.length ∧ F.length ≤ is.length ∧ S.length ≤ is.length ∧ L.length ≤ is.length := by
  induction h with
  | nil => exact ⟨Nat.le_refl _, Nat.le_refl _, Nat.le_refl _, Nat.le_refl _⟩
  | @snoc is i R S R' S' F F' L L' _ p ih =>
    have ll : (is ++ [i]).length = is.length + 1 := by rw [List.length_append]; rfl
    rw [ll]
    cases i with
    | rel n c =>
      obtain ⟨⟨q, rfl⟩, pf, rfl, rfl⟩ := p
      have := putG_len R n (q, c)
      have : F'.length ≤ F.length + 1 := by
        rcases pf with ⟨_, rfl⟩ | ⟨q, _, rfl⟩
        · omega
        · rw [List.length_append]
          exact Nat.le_refl _
      omega
    | fact n r row =>
      obtain ⟨⟨q, rs, F1, k, h1, _, _, h4⟩, rfl, rfl, rfl⟩ := p
      have l1 : F1.length ≤ F.length + 1 ∧ (valG F n).isSome = true ∨ F1.length = F.length + 1 := by
        rcases h1 with ⟨rfl, e⟩ | ⟨_, _, rfl⟩
        · exact .inl ⟨by omega, by rw [e]; rfl⟩
        · exact .inr (by rw [List.length_append]; rfl)
      have : F'.length ≤ F.length + 1 := by
        have n1 : (valG F1 n).isSome = true := by
          rcases h1 with ⟨rfl, e⟩ | ⟨hn, _, rfl⟩
          · rw [e]; rfl
          · rw [← putG_new _ hn, valG_put, if_pos rfl]; rfl
        have f1 : F1.length ≤ F.length + 1 := by
          rcases h1 with ⟨rfl, e⟩ | ⟨_, _, rfl⟩
          · omega
          · rw [List.length_append]; exact Nat.le_refl _
        rcases h4 with ⟨rfl, _⟩ | ⟨rfl, _⟩
        · exact f1
        · have := congrArg List.length (putG_keys F1 n (q, rs.take k ++ [(r, row)] ++ rs.drop k))
          rw [if_pos n1, List.length_map, List.length_map] at this
          omega
      omega
    | str n c =>
      obtain ⟨⟨q, rfl⟩, rfl, rfl, rfl⟩ := p
      have := putG_len S n (q, c)
      omega
    | lay n v =>
      obtain ⟨rfl, rfl, rfl, rfl⟩ := p
      have := putG_len L n v
      omega
structure LawT (K : PySem.W.Frag) (H : Hp) (R : Tb) (F : Fb) (S : Tb) (L : List (Str × V)) : Prop where
  tg : TabG K H R F S L
  ln : R.length < 64 ∧ F.length < 64 ∧ S.length < 64 ∧ L.length < 64
  rw_ : ∀ n q rs, valG F n = some (q, rs) → rs.length ≤ 50
  fl : ∀ n, (valG F n).isSome = true → n = "p" ∨ n = "q"
  dat : ∀ ys fs ss ls, ys.Perm (R.map (·.1)) → fs.Perm (F.map (·.1)) → ss.Perm (S.map (·.1)) → ls.Perm (L.map (·.1)) → ∀ k ∈ allE R F S L ys fs ss ls, ∃ d, ItX K H k d ∧ Sd 2 402 d
theorem LawT.same {K : PySem.W.Frag} {H H' : Hp} {R : Tb} {F : Fb} {S : Tb} {L : List (Str × V)} (h : LawT K H R F S L) (s : Same H H') : LawT K H' R F S L :=
  ⟨h.tg.same s, h.ln, h.rw_, h.fl, fun ys fs ss ls a b c d k m => (h.dat ys fs ss ls a b c d k m).imp fun e z => ⟨z.1.same s, z.2⟩⟩
end K1
namespace K1
open PySem PySem.Spec PyProof.Rows L2 Ow Tlz
/-- the names that have rows -/
theorem Puts.fkeys {is : List It} {R S : Tb} {F : Fb} {L : List (Str × V)} (h : Puts is R F S L) : ∀ m, (valG F m).isSome = true ↔ (∃ c, It.rel m c ∈ is) ∨ ∃ r row, It.fact m r row ∈ is := by
  have key : ∀ m, (valG F m).isSome = true → (∃ c, It.rel m c ∈ is) ∨ ∃ r row, It.fact m r row ∈ is := by
    induction h with
    | nil => intro m e; cases e
    | @snoc is i R S R' S' F F' L L' _ p ih =>
      intro m e
      have ml : ∀ {j : It}, j ∈ is → j ∈ is ++ [i] := fun m => List.mem_append_left _ m
      have mi : i ∈ is ++ [i] := List.mem_append_right _ (List.mem_singleton.mpr rfl)
      have old : (valG F m).isSome = true → (∃ c, It.rel m c ∈ is ++ [i]) ∨ ∃ r row, It.fact m r row ∈ is ++ [i] := fun e => (ih m e).imp (fun ⟨c, z⟩ => ⟨c, ml z⟩) fun ⟨r, row, z⟩ => ⟨r, row, ml z⟩
      cases i with
      | rel n c =>
        obtain ⟨_, pf, _, _⟩ := p
        rcases pf with ⟨_, rfl⟩ | ⟨q, hn, rfl⟩
        · exact old e
        · rw [← putG_new _ hn, valG_put] at e
          split at e
          · rename_i z
            rw [z]
            exact .inl ⟨c, mi⟩
          · exact old e
      | fact n r row =>
        obtain ⟨pf, _, _, _⟩ := p
        obtain ⟨_, _, g⟩ := putF_got pf
        obtain ⟨⟨q, rs⟩, e⟩ := Option.isSome_iff_exists.mp e
        rcases g m q rs e with ⟨q', rs', e', _⟩ | ⟨_, rfl, _⟩
        · exact old (by rw [e']; rfl)
        · exact .inr ⟨r, row, mi⟩
      | str n c =>
        obtain ⟨_, _, rfl, _⟩ := p
        exact old e
      | lay n v =>
        obtain ⟨_, _, rfl, _⟩ := p
        exact old e
  intro m
  refine ⟨key m, ?_⟩
  rintro (⟨c, z⟩ | ⟨r, row, z⟩)
  · exact (h.got.rh m c z).2
  · clear key
    induction h with
    | nil => nomatch z
    | @snoc is i R S R' S' F F' L L' _ p ih =>
      have sF : (valG F m).isSome = true → (valG F' m).isSome = true := fun e => by
        cases i with
        | rel n c =>
          obtain ⟨_, pf, _, _⟩ := p
          rcases pf with ⟨_, rfl⟩ | ⟨q, hn, rfl⟩
          · exact e
          · rw [← putG_new _ hn]
            exact put_some e
        | fact n r row =>
          obtain ⟨pf, _, _, _⟩ := p
          exact (putF_got pf).1 m e
        | str n c =>
          obtain ⟨_, _, rfl, _⟩ := p
          exact e
        | lay n v =>
          obtain ⟨_, _, rfl, _⟩ := p
          exact e
      rcases List.mem_append.mp z with z | z
      · exact sF (ih z)
      · obtain rfl : It.fact m r row = i := by simpa using z
        exact (putF_got p.1).2.1
end K1
namespace K1
open PySem PySem.Spec PyProof.Rows L2 Ow Tlz
/-- a small printable text -/
def Nz (z : Str) : Prop := Pr z ∧ PyData.strOk z = true ∧ z.cps.size ≤ 20
theorem Nz.sd {z : Str} (h : Nz z) : Sd 0 20 (.str z) := Sd.str h.2.1 h.2.2
/-- contents with small data -/
def CX (K : PySem.W.Frag) (H : Hp) (c : List V) : Prop := ∃ ds, DpAll K H c ds ∧ noLs ds = true ∧ ds.length = c.length ∧ ∀ d ∈ ds, Gd 1 d ∧ Sd 1 66 d
section
variable {K : PySem.W.Frag} {H : Hp}
theorem CX.nil : CX K H [] := ⟨[], .nil, rfl, rfl, fun _ m => nomatch m⟩
theorem CX.cons {v : V} {c : List V} {d : PyData} (a : Dp K H v d) (n : noL d = true) (g : Gd 1 d) (s : Sd 1 66 d) (h : CX K H c) : CX K H (v :: c) := by
  obtain ⟨ds, b, m, l, e⟩ := h
  refine ⟨d :: ds, .cons a b, by rw [noLs, n, m]; rfl, by simp [l], fun x mx => ?_⟩
  rcases List.mem_cons.mp mx with z | z
  · rw [z]
    exact ⟨g, s⟩
  · exact e x z
theorem CX.int {i : Int} {c : List V} (hi : i.natAbs < 1000) (h : CX K H c) : CX K H (.int i :: c) := CX.cons (.int i) (by simp [noL]) ((Gd.int i).up (by omega)) ((Sd.int hi).up (by omega) (by omega)) h
theorem CX.str {z : Str} {c : List V} (p : Nz z) (h : CX K H c) : CX K H (.str z :: c) := CX.cons (.str z) (by simp [noL]) ((Gd.str p.1).up (by omega)) (p.sd.up (by omega) (by omega)) h
theorem strs_sd : ∀ {zs : List Str}, (∀ z ∈ zs, Nz z) → DpAll K H (zs.map V.str) (zs.map PyData.str) ∧ noLs (zs.map PyData.str) = true ∧ ∀ d ∈ zs.map PyData.str, Gd 0 d ∧ Sd 0 20 d
  | [], _ => ⟨.nil, rfl, fun _ m => nomatch m⟩
  | z :: r, h => by
    obtain ⟨a, b, c⟩ := strs_sd (zs := r) fun y m => h y (List.mem_cons_of_mem _ m)
    refine ⟨.cons (.str z) a, by rw [List.map_cons, noLs, b]; rfl, fun d m => ?_⟩
    rcases List.mem_cons.mp m with e | m
    · rw [e]
      exact ⟨Gd.str (h z List.mem_cons_self).1, (h z List.mem_cons_self).sd⟩
    · exact c d m
theorem CX.tup {a : Addr} {zs : List Str} {c : List V} (h : SqT K H a (zs.map V.str)) (l : zs.length ≤ 3) (hz : ∀ z ∈ zs, Nz z) (t : CX K H c) : CX K H (.ref a :: c) := by
  obtain ⟨d1, d2, d3⟩ := strs_sd (K := K) (H := H) hz
  have ll : (zs.map PyData.str).length ≤ 3 := by rw [List.length_map]; exact l
  exact CX.cons (.tup h d1) (by rw [noL]; exact d2) ((Gd.tup (by omega) fun d m => (d3 d m).1)) ((Sd.tup 3 (fun d m => (d3 d m).2) ll).up (by omega) (by omega)) t
theorem CX.cd {c : List V} (h : CX K H c) : CD K H c := by
  obtain ⟨ds, a, b, _, e⟩ := h
  exact ⟨ds, a, fun d m => (e d m).1, b⟩
theorem two_sd {w n : Str} {ds : List PyData} (hw : Nz w) (hn : Nz n) (l : ds.length ≤ 4) (h : ∀ d ∈ ds, Sd 1 66 d) : Sd 2 402 (.tuple (.str w :: .str n :: ds)) := by
  refine Sd.tup (k := 1) (wt := 66) (ds := .str w :: .str n :: ds) 6 (fun d m => ?_) (by rw [List.length_cons, List.length_cons]; omega)
  rcases List.mem_cons.mp m with z | m
  · rw [z]
    exact hw.sd.up (by omega) (by omega)
  · rcases List.mem_cons.mp m with z | m
    · rw [z]
      exact hn.sd.up (by omega) (by omega)
    · exact h d m
theorem nz_words : Nz "relation" ∧ Nz "fact" ∧ Nz "structure" ∧ Nz "layout" := by
  unfold Nz
  decide +kernel
theorem CX.item {c : List V} {s : Int} {n : Str} {row : List V} (h : CX K H c) (l : c.length ≤ 4) (hn : Nz n) (hr : ∀ v ∈ row, v ∈ LV) (lr : row.length ≤ 2) : ∃ d, ItX K H (s, n, row, c) d ∧ Sd 2 402 d := by
  obtain ⟨ds, a, b, e, f⟩ := h
  obtain ⟨w1, w2, w3, w4⟩ := nz_words
  refine ⟨_, ⟨ds, a, b, rfl⟩, ?_⟩
  unfold dat
  have ss := fun d m => (f d m).2
  split
  · exact two_sd w1 hn (by omega) ss
  · split
    · refine two_sd w2 hn (show 1 ≤ 4 by decide) fun d m => ?_
      rw [List.mem_singleton.mp m]
      refine (Sd.tup 2 (k := 0) (wt := 20) (fun d m => ?_) (by rw [List.length_map]; exact lr)).up (by omega) (by omega)
      obtain ⟨v, mv, rfl⟩ := List.mem_map.mp m
      have key : ∀ v ∈ LV, (match v with | .int i => decide (i.natAbs < 1000) | .str z => PyData.strOk z && decide (z.cps.size ≤ 20) | _ => false) = true := by decide +kernel
      have kv := key v (hr v mv)
      rcases LV_sc (hr v mv) with ⟨i, rfl, _⟩ | ⟨z, rfl, _⟩
      · exact Sd.int (of_decide_eq_true kv)
      · obtain ⟨k1, k2⟩ := Bool.and_eq_true_iff.mp kv
        exact Sd.str k1 (of_decide_eq_true k2)
    · split
      · exact two_sd w3 hn (by omega) ss
      · exact two_sd w4 hn (by omega) ss
end
end K1
namespace K1
open PySem PySem.Spec PyProof.Rows L2 Ow Tlz
/-! what is known of the law's State -/
def NS4 : List Str := ["s", "t", "u", "w"]
def lawW (F : Fb) (b0 b1 b2 : Int) : Wd where
  cols n := if n = "p" then ["a", "b"] else ["c"]
  room _ := 20
  rows n := match valG F n with
    | some (_, rs) => rs
    | none => []
  srel n := if n = "w" then "q" else "p"
  scs n := if n = "s" then [.str "a"] else if n = "t" then [.str "b"] else if n = "u" then [.str "b", .str "a"] else [.str "c"]
  sb n := if n = "s" then b0 else if n = "t" then b1 else if n = "u" then b2 else 2
  ss _ := 8
structure LawV (K : PySem.W.Frag) (C : Addr) (H : Hp) (x : Addr) (R : Tb) (F : Fb) (S : Tb) (L : List (Str × V)) (W : Wd) (y : Nat → Addr) : Prop where
  st : ∃ dr df ds dl Z, StAt K C Z H x dr df ds dl R F S L 300
  wv : Wv K C H x R F S W
  eW : ∃ b0 b1 b2, W = lawW F b0 b1 b2
  rn : ∀ m, (valG R m).isSome = true ↔ m = "p" ∨ m = "q"
  sn : ∀ m, (valG S m).isSome = true ↔ m ∈ NS4
  lv : ∀ m, (valG R m).isSome = true → (W.rows m).length ≤ 50 ∧ ∀ t ∈ W.rows m, ∀ v ∈ t.2, v ∈ LV
  ly : ∀ m v, valG L m = some v → ∃ i, i < 6 ∧ v = .ref (y i)
  lt : ∀ i, i < 6 → FT H (y i) ((layK i).map V.str)
theorem LawV.same {K : PySem.W.Frag} {C : Addr} {H H' : Hp} {x : Addr} {R : Tb} {F : Fb} {S : Tb} {L : List (Str × V)} {W : Wd} {y : Nat → Addr} (h : LawV K C H x R F S L W y) (s : Same H H') : LawV K C H' x R F S L W y := by
  obtain ⟨⟨dr, df, ds, dl, Z, st⟩, wv, eW, rn, sn, lv, ly, lt⟩ := h
  exact ⟨⟨dr, df, ds, dl, _, st.same s⟩, wv.same s, eW, rn, sn, lv, ly, fun i hi => (Tk.same (K := K) s).x _ _ (lt i hi)⟩
theorem k_qp : ¬ (("q" : Str) = "p") := by decide +kernel
theorem k_pw : ¬ (("p" : Str) = "w") := by decide +kernel
theorem k_st : ¬ (("s" : Str) = "t") := by decide +kernel
theorem k_ts : ¬ (("t" : Str) = "s") := by decide +kernel
theorem k_us : ¬ (("u" : Str) = "s") := by decide +kernel
theorem k_ut : ¬ (("u" : Str) = "t") := by decide +kernel
theorem k_ws : ¬ (("w" : Str) = "s") := by decide +kernel
theorem k_wt : ¬ (("w" : Str) = "t") := by decide +kernel
theorem k_wu : ¬ (("w" : Str) = "u") := by decide +kernel
theorem k_sw : ¬ (("s" : Str) = "w") := by decide +kernel
theorem k_tw : ¬ (("t" : Str) = "w") := by decide +kernel
theorem k_uw : ¬ (("u" : Str) = "w") := by decide +kernel
section
variable (F : Fb) (b0 b1 b2 : Int)
theorem lw_p : (lawW F b0 b1 b2).cols "p" = (["a", "b"] : List Str) := by
  unfold lawW
  simp [k_qp, k_sw, k_tw, k_uw, k_ts, k_us, k_ut, k_ws, k_wt, k_wu]
theorem lw_q : (lawW F b0 b1 b2).cols "q" = (["c"] : List Str) := by
  unfold lawW
  simp [k_qp, k_sw, k_tw, k_uw, k_ts, k_us, k_ut, k_ws, k_wt, k_wu]
theorem lw_s : (lawW F b0 b1 b2).srel "s" = "p" ∧ (lawW F b0 b1 b2).scs "s" = [.str "a"] ∧ (lawW F b0 b1 b2).sb "s" = b0 := by
  unfold lawW
  simp [k_qp, k_sw, k_tw, k_uw, k_ts, k_us, k_ut, k_ws, k_wt, k_wu]
theorem lw_t : (lawW F b0 b1 b2).srel "t" = "p" ∧ (lawW F b0 b1 b2).scs "t" = [.str "b"] ∧ (lawW F b0 b1 b2).sb "t" = b1 := by
  unfold lawW
  simp [k_qp, k_sw, k_tw, k_uw, k_ts, k_us, k_ut, k_ws, k_wt, k_wu]
theorem lw_u : (lawW F b0 b1 b2).srel "u" = "p" ∧ (lawW F b0 b1 b2).scs "u" = [.str "b", .str "a"] ∧ (lawW F b0 b1 b2).sb "u" = b2 := by
  unfold lawW
  simp [k_qp, k_sw, k_tw, k_uw, k_ts, k_us, k_ut, k_ws, k_wt, k_wu]
theorem lw_w : (lawW F b0 b1 b2).srel "w" = "q" ∧ (lawW F b0 b1 b2).scs "w" = [.str "c"] ∧ (lawW F b0 b1 b2).sb "w" = 2 := by
  unfold lawW
  simp [k_qp, k_sw, k_tw, k_uw, k_ts, k_us, k_ut, k_ws, k_wt, k_wu]
end
theorem LV_row {row : List V} (h : ∀ v ∈ row, v ∈ LV) (l : row.length = 1 ∨ row.length = 2) : (rowB row).length ≤ 9 := by
  rw [rowB_eq, List.length_append]
  have n1 : (numB row.length).length = 1 := by rcases l with l | l <;> rw [l] <;> decide +kernel
  rw [n1]
  match row, l with
  | [a], _ =>
    have := LV_len a (h a List.mem_cons_self)
    simp only [List.map_cons, List.map_nil, List.flatten_cons, List.flatten_nil, List.append_nil]
    omega
  | [a, b], _ =>
    have := LV_len a (h a List.mem_cons_self)
    have := LV_len b (h b (List.mem_cons_of_mem _ List.mem_cons_self))
    simp only [List.map_cons, List.map_nil, List.flatten_cons, List.flatten_nil, List.append_nil, List.length_append]
    omega
  | [], l => rcases l with l | l <;> cases l
  | _ :: _ :: _ :: _, l => rcases l with l | l <;> simp at l
theorem layN_ok : ∀ i, i < 6 → Nz (layN i) := by
  intro i hi
  have : i = 0 ∨ i = 1 ∨ i = 2 ∨ i = 3 ∨ i = 4 ∨ i = 5 := by omega
  rcases this with rfl | rfl | rfl | rfl | rfl | rfl <;> (unfold Nz; decide +kernel)
theorem layK_ok : ∀ i, i < 6 → (layK i).length ≤ 3 ∧ ∀ z ∈ layK i, Nz z := by
  intro i hi
  have : i = 0 ∨ i = 1 ∨ i = 2 ∨ i = 3 ∨ i = 4 ∨ i = 5 := by omega
  rcases this with rfl | rfl | rfl | rfl | rfl | rfl <;> (unfold Nz; decide +kernel)
theorem LawSt.v {K : PySem.W.Frag} {C : Addr} {H : Hp} {x : Addr} {b0 b1 b2 : Int} {n : Nat} (h : LawSt K C H x b0 b1 b2 n) (h0 : 1 ≤ b0 ∧ b0 ≤ 6) (h1 : 1 ≤ b1 ∧ b1 ≤ 6) (h2 : 1 ≤ b2 ∧ b2 ≤ 6) (hn : n ≤ 6) :
    ∃ R F S L y, LawV K C H x R F S L (lawW F b0 b1 b2) y ∧ LawT K H R F S L := by
  obtain ⟨c1, c2, zs, zt, zu, zw, y, is, dr, df, ds, dl, Z, R, S, F, L, st, pu, li, a1, a2, ft⟩ := h.ex
  have g := pu.got
  refine ⟨R, F, S, L, y, ?_⟩
  have ftm : ∀ {a : Addr} {xs : List V}, (a, xs) ∈ ft1 c1 c2 ++ ft2 zs zt zu zw ++ ft3 y → FT H a xs := fun m => ft _ m
  have m1 : ∀ {i : It}, i ∈ fix1 c1 c2 → i ∈ fix1 c1 c2 ++ fix2 zs zt zu zw b0 b1 b2 ++ fix3 y n := fun m => List.mem_append_left _ (List.mem_append_left _ m)
  have m2 : ∀ {i : It}, i ∈ fix2 zs zt zu zw b0 b1 b2 → i ∈ fix1 c1 c2 ++ fix2 zs zt zu zw b0 b1 b2 ++ fix3 y n := fun m => List.mem_append_left _ (List.mem_append_right _ m)
  have n1 : ∀ {a : Addr} {xs : List V}, (a, xs) ∈ ft1 c1 c2 → FT H a xs := fun m => ftm (List.mem_append_left _ (List.mem_append_left _ m))
  have n2 : ∀ {a : Addr} {xs : List V}, (a, xs) ∈ ft2 zs zt zu zw → FT H a xs := fun m => ftm (List.mem_append_left _ (List.mem_append_right _ m))
  have n3 : ∀ {a : Addr} {xs : List V}, (a, xs) ∈ ft3 y → FT H a xs := fun m => ftm (List.mem_append_right _ m)
  -- what a relation, a structure, a layout, a fact is
  have cR : ∀ {m : Str} {q : Addr} {c : List V}, valG R m = some (q, c) → (m = "p" ∧ c = [.ref c1, .int 20]) ∨ (m = "q" ∧ c = [.ref c2, .int 20]) := fun {m q c} e => by
    rcases a1 _ (g.r m q c e) with z | ⟨_, _, _, z, _⟩
    · rcases List.mem_append.mp z with z | z
      · rcases List.mem_append.mp z with z | z
        · simp only [fix1, List.mem_cons, List.not_mem_nil, or_false] at z
          rcases z with z | z <;> cases z
          · exact .inl ⟨rfl, rfl⟩
          · exact .inr ⟨rfl, rfl⟩
        · simp only [fix2, List.mem_cons, List.not_mem_nil, or_false] at z
          rcases z with z | z | z | z <;> cases z
      · obtain ⟨i, _, z⟩ := List.mem_map.mp z
        cases z
    · cases z
  have cS : ∀ {m : Str} {q : Addr} {c : List V}, valG S m = some (q, c) → (m = "s" ∧ c = [.str "p", .ref zs, .int b0, .int 8]) ∨ (m = "t" ∧ c = [.str "p", .ref zt, .int b1, .int 8]) ∨ (m = "u" ∧ c = [.str "p", .ref zu, .int b2, .int 8]) ∨ (m = "w" ∧ c = [.str "q", .ref zw, .int 2, .int 8]) := fun {m q c} e => by
    rcases a1 _ (g.s m q c e) with z | ⟨_, _, _, z, _⟩
    · rcases List.mem_append.mp z with z | z
      · rcases List.mem_append.mp z with z | z
        · simp only [fix1, List.mem_cons, List.not_mem_nil, or_false] at z
          rcases z with z | z <;> cases z
        · simp only [fix2, List.mem_cons, List.not_mem_nil, or_false] at z
          rcases z with z | z | z | z <;> cases z
          · exact .inl ⟨rfl, rfl⟩
          · exact .inr (.inl ⟨rfl, rfl⟩)
          · exact .inr (.inr (.inl ⟨rfl, rfl⟩))
          · exact .inr (.inr (.inr ⟨rfl, rfl⟩))
      · obtain ⟨i, _, z⟩ := List.mem_map.mp z
        cases z
    · cases z
  have hR : ∀ m, (valG R m).isSome = true ↔ m = "p" ∨ m = "q" := fun m => by
    constructor
    · intro e
      obtain ⟨⟨q, c⟩, e⟩ := some_val e
      exact (cR e).imp And.left And.left
    · rintro (rfl | rfl)
      · exact (g.rh "p" _ (a2 _ (m1 List.mem_cons_self))).1
      · exact (g.rh "q" _ (a2 _ (m1 (List.mem_cons_of_mem _ List.mem_cons_self)))).1
  have hS : ∀ m, (valG S m).isSome = true ↔ m ∈ NS4 := fun m => by
    constructor
    · intro e
      obtain ⟨⟨q, c⟩, e⟩ := some_val e
      rcases cS e with ⟨rfl, _⟩ | ⟨rfl, _⟩ | ⟨rfl, _⟩ | ⟨rfl, _⟩ <;> simp [NS4]
    · intro z
      simp only [NS4, List.mem_cons, List.not_mem_nil, or_false] at z
      rcases z with rfl | rfl | rfl | rfl
      · exact g.sh "s" _ (a2 _ (m2 List.mem_cons_self))
      · exact g.sh "t" _ (a2 _ (m2 (List.mem_cons_of_mem _ List.mem_cons_self)))
      · exact g.sh "u" _ (a2 _ (m2 (List.mem_cons_of_mem _ (List.mem_cons_of_mem _ List.mem_cons_self))))
      · exact g.sh "w" _ (a2 _ (m2 (List.mem_cons_of_mem _ (List.mem_cons_of_mem _ (List.mem_cons_of_mem _ List.mem_cons_self)))))
  have fmem : ∀ {m : Str} {q : Addr} {rs : List (Addr × List V)}, valG F m = some (q, rs) → m = "p" ∨ m = "q" := fun {m q rs} e => by
    rcases (pu.fkeys m).mp (by rw [e]; rfl) with ⟨c, z⟩ | ⟨r, row, z⟩
    · rcases a1 _ z with z | ⟨_, _, _, z, _⟩
      · rcases List.mem_append.mp z with z | z
        · rcases List.mem_append.mp z with z | z
          · simp only [fix1, List.mem_cons, List.not_mem_nil, or_false] at z
            rcases z with z | z <;> cases z
            · exact .inl rfl
            · exact .inr rfl
          · simp only [fix2, List.mem_cons, List.not_mem_nil, or_false] at z
            rcases z with z | z | z | z <;> cases z
        · obtain ⟨i, _, z⟩ := List.mem_map.mp z
          cases z
      · cases z
    · rcases a1 _ z with z | ⟨n', r', row', z, z1, _⟩
      · rcases List.mem_append.mp z with z | z
        · rcases List.mem_append.mp z with z | z
          · simp only [fix1, List.mem_cons, List.not_mem_nil, or_false] at z
            rcases z with z | z <;> cases z
          · simp only [fix2, List.mem_cons, List.not_mem_nil, or_false] at z
            rcases z with z | z | z | z <;> cases z
        · obtain ⟨i, _, z⟩ := List.mem_map.mp z
          cases z
      · injection z with z3 z4 z5
        subst z3
        exact (z1.imp And.left And.left).symm
  have hF : ∀ {m : Str}, (valG R m).isSome = true → ∃ q rs, valG F m = some (q, rs) ∧ (lawW F b0 b1 b2).rows m = rs ∧ rs.length ≤ 50 ∧ ∀ t ∈ rs, ((m = "q" ∧ t.2.length = 1) ∨ (m = "p" ∧ t.2.length = 2)) ∧ ∀ v ∈ t.2, v ∈ LV := fun {m} e => by
    have e' : (valG F m).isSome = true := by
      rcases (hR m).mp e with rfl | rfl
      · exact (g.rh "p" _ (a2 _ (m1 List.mem_cons_self))).2
      · exact (g.rh "q" _ (a2 _ (m1 (List.mem_cons_of_mem _ List.mem_cons_self)))).2
    obtain ⟨⟨q, rs⟩, ef⟩ := some_val e'
    obtain ⟨gf, gl⟩ := g.f m q rs ef
    refine ⟨q, rs, ef, ?_, by omega, fun t mt => ?_⟩
    · show (match valG F m with
        | some (_, rs) => rs
        | none => []) = rs
      rw [ef]
    · obtain ⟨r, mi⟩ := gf t mt
      rcases a1 _ mi with z | ⟨n', r', row', z, z1, z2⟩
      · rcases List.mem_append.mp z with z | z
        · rcases List.mem_append.mp z with z | z
          · simp only [fix1, List.mem_cons, List.not_mem_nil, or_false] at z
            rcases z with z | z <;> cases z
          · simp only [fix2, List.mem_cons, List.not_mem_nil, or_false] at z
            rcases z with z | z | z | z <;> cases z
        · obtain ⟨i, _, z⟩ := List.mem_map.mp z
          cases z
      · injection z with z3 z4 z5
        subst z3
        subst z5
        exact ⟨z1, z2⟩
  have sv := st.v
  have wid : ∀ {m : Str}, (m = "p" → ∀ t ∈ (lawW F b0 b1 b2).rows m, t.2.length = 2) ∧ (m = "q" → ∀ t ∈ (lawW F b0 b1 b2).rows m, t.2.length = 1) := fun {m} => by
    constructor
    · rintro rfl t mt
      obtain ⟨q, rs, ef, er, _, hr⟩ := hF ((hR "p").mpr (.inl rfl))
      rw [er] at mt
      rcases (hr t mt).1 with ⟨z, _⟩ | ⟨_, z⟩
      · exact absurd z.symm k_qp
      · exact z
    · rintro rfl t mt
      obtain ⟨q, rs, ef, er, _, hr⟩ := hF ((hR "q").mpr (.inr rfl))
      rw [er] at mt
      rcases (hr t mt).1 with ⟨_, z⟩ | ⟨z, _⟩
      · exact z
      · exact absurd z k_qp
  have pp : ∃ qa, valG R "p" = some (qa, [.ref c1, .int 20]) := by
    obtain ⟨⟨q, c⟩, e⟩ := some_val ((hR "p").mpr (.inl rfl))
    rcases cR e with ⟨_, rfl⟩ | ⟨z, _⟩
    · exact ⟨q, e⟩
    · exact absurd z.symm k_qp
  have pq : ∃ qa, valG R "q" = some (qa, [.ref c2, .int 20]) := by
    obtain ⟨⟨q, c⟩, e⟩ := some_val ((hR "q").mpr (.inr rfl))
    rcases cR e with ⟨z, _⟩ | ⟨_, rfl⟩
    · exact absurd z k_qp
    · exact ⟨q, e⟩
  have nzs : Nz "p" ∧ Nz "q" ∧ Nz "s" ∧ Nz "t" ∧ Nz "u" ∧ Nz "w" ∧ Nz "a" ∧ Nz "b" ∧ Nz "c" := by
    unfold Nz
    decide +kernel
  obtain ⟨zp, zq, zs', zt', zu', zw', za, zb, zc⟩ := nzs
  have fp1 : FT H c1 ((["a", "b"] : List Str).map V.str) := n1 List.mem_cons_self
  have fq1 : FT H c2 ((["c"] : List Str).map V.str) := n1 (List.mem_cons_of_mem _ List.mem_cons_self)
  have fs1 : FT H zs ((["a"] : List Str).map V.str) := n2 List.mem_cons_self
  have ft1 : FT H zt ((["b"] : List Str).map V.str) := n2 (List.mem_cons_of_mem _ List.mem_cons_self)
  have fu1 : FT H zu ((["b", "a"] : List Str).map V.str) := n2 (List.mem_cons_of_mem _ (List.mem_cons_of_mem _ List.mem_cons_self))
  have fw1 : FT H zw ((["c"] : List Str).map V.str) := n2 (List.mem_cons_of_mem _ (List.mem_cons_of_mem _ (List.mem_cons_of_mem _ List.mem_cons_self)))
  have xR : ∀ {m : Str} {q : Addr} {c : List V}, valG R m = some (q, c) → Nz m ∧ c.length = 2 ∧ CX K H c := fun {m q c} e => by
    rcases cR e with ⟨rfl, rfl⟩ | ⟨rfl, rfl⟩
    · exact ⟨zp, rfl, CX.tup fp1.sq (by decide) (fun z m => by rcases List.mem_cons.mp m with rfl | m; exact za; rw [List.mem_singleton.mp m]; exact zb) (CX.int (by decide) CX.nil)⟩
    · exact ⟨zq, rfl, CX.tup fq1.sq (by decide) (fun z m => by rw [List.mem_singleton.mp m]; exact zc) (CX.int (by decide) CX.nil)⟩
  have xS : ∀ {m : Str} {q : Addr} {c : List V}, valG S m = some (q, c) → Nz m ∧ c.length = 4 ∧ CX K H c := fun {m q c} e => by
    rcases cS e with ⟨rfl, rfl⟩ | ⟨rfl, rfl⟩ | ⟨rfl, rfl⟩ | ⟨rfl, rfl⟩
    · exact ⟨zs', rfl, CX.str zp (CX.tup fs1.sq (by decide) (fun z m => by rw [List.mem_singleton.mp m]; exact za) (CX.int (by omega) (CX.int (by decide) CX.nil)))⟩
    · exact ⟨zt', rfl, CX.str zp (CX.tup ft1.sq (by decide) (fun z m => by rw [List.mem_singleton.mp m]; exact zb) (CX.int (by omega) (CX.int (by decide) CX.nil)))⟩
    · exact ⟨zu', rfl, CX.str zp (CX.tup fu1.sq (by decide) (fun z m => by rcases List.mem_cons.mp m with rfl | m; exact zb; rw [List.mem_singleton.mp m]; exact za) (CX.int (by omega) (CX.int (by decide) CX.nil)))⟩
    · exact ⟨zw', rfl, CX.str zq (CX.tup fw1.sq (by decide) (fun z m => by rw [List.mem_singleton.mp m]; exact zc) (CX.int (by decide) (CX.int (by decide) CX.nil)))⟩
  have cL : ∀ {m : Str} {v : V}, valG L m = some v → ∃ i, i < 6 ∧ m = layN i ∧ v = .ref (y i) := fun {m v} e => by
    rcases a1 _ (g.l m v e) with z | ⟨_, _, _, z, _⟩
    · rcases List.mem_append.mp z with z | z
      · rcases List.mem_append.mp z with z | z
        · simp only [fix1, List.mem_cons, List.not_mem_nil, or_false] at z
          rcases z with z | z <;> cases z
        · simp only [fix2, List.mem_cons, List.not_mem_nil, or_false] at z
          rcases z with z | z | z | z <;> cases z
      · obtain ⟨i, mi, z⟩ := List.mem_map.mp z
        have := List.mem_range.mp mi
        cases z
        exact ⟨i, by omega, rfl, rfl⟩
    · cases z
  have xL : ∀ {m : Str} {v : V}, valG L m = some v → Nz m ∧ CX K H [v] := fun {m v} e => by
    obtain ⟨i, hi, rfl, rfl⟩ := cL e
    refine ⟨layN_ok i hi, CX.tup (n3 (List.mem_map.mpr ⟨i, List.mem_range.mpr hi, rfl⟩)).sq (layK_ok i hi).1 (layK_ok i hi).2 CX.nil⟩
  have xF : ∀ {m : Str} {q : Addr} {rs : List (Addr × List V)}, valG F m = some (q, rs) → Nz m ∧ (m = "p" ∨ m = "q") ∧ rs.length ≤ 50 ∧ ∀ t ∈ rs, t.2.length ≤ 2 ∧ ∀ v ∈ t.2, v ∈ LV := fun {m q rs} e => by
    have hm : m = "p" ∨ m = "q" := fmem e
    obtain ⟨q', rs', e', _, l50, hr⟩ := hF ((hR m).mpr hm)
    rw [e] at e'
    cases e'
    refine ⟨?_, hm, l50, fun t mt => ⟨?_, (hr t mt).2⟩⟩
    · rcases hm with rfl | rfl
      · exact zp
      · exact zq
    · rcases (hr t mt).1 with ⟨_, z⟩ | ⟨_, z⟩ <;> omega
  have lT : LawT K H R F S L := by
    obtain ⟨p1, p2, p3, p4⟩ := pu.len
    refine ⟨⟨fun m q c e => ?_, fun m q c e => ?_, fun m v e => ?_, fun m e => ?_⟩, ⟨by omega, by omega, by omega, by omega⟩, fun m q rs e => (xF e).2.2.1, fun m e => ?_, fun ys fs ss ls py pf ps pl k mk => ?_⟩
    · obtain ⟨a, b, c⟩ := xR e
      exact ⟨a.1, b, c.cd⟩
    · obtain ⟨a, b, c⟩ := xS e
      exact ⟨a.1, b, c.cd⟩
    · obtain ⟨a, b⟩ := xL e
      exact ⟨a.1, b.cd⟩
    · obtain ⟨⟨q, rs⟩, e⟩ := some_val e
      exact (xF e).1.1
    · obtain ⟨⟨q, rs⟩, e⟩ := some_val e
      exact (xF e).2.1
    · have hk : ∀ {β : Type} {T : List (Str × β)} {zs : List Str} {n : Str}, zs.Perm (T.map (·.1)) → n ∈ zs → ∃ b, valG T n = some b := fun p m => some_val (valG_key.mp (p.mem_iff.mp m))
      unfold allE at mk
      rcases List.mem_append.mp mk with mk | mk
      · rcases List.mem_append.mp mk with mk | mk
        · rcases List.mem_append.mp mk with mk | mk
          · obtain ⟨n, mn, rfl⟩ := List.mem_map.mp mk
            obtain ⟨⟨q, c⟩, e⟩ := hk py mn
            obtain ⟨a, b, cx⟩ := xR e
            have ec : cOf R n = c := cOf_eq e
            rw [ec]
            exact cx.item (s := 0) (n := n) (row := []) (by omega) a (fun v m => nomatch m) (by decide)
          · obtain ⟨n, mn, mk⟩ := List.mem_flatMap.mp mk
            obtain ⟨t, mt, rfl⟩ := List.mem_map.mp mk
            obtain ⟨⟨q, rs⟩, e⟩ := hk pf mn
            rw [rOf_eq e] at mt
            obtain ⟨a, _, _, b⟩ := xF e
            exact CX.nil.item (s := 1) (n := n) (row := t.2) (by decide) a (b t mt).2 (b t mt).1
        · obtain ⟨n, mn, rfl⟩ := List.mem_map.mp mk
          obtain ⟨⟨q, c⟩, e⟩ := hk ps mn
          obtain ⟨a, b, cx⟩ := xS e
          have ec : cOf S n = c := cOf_eq e
          rw [ec]
          exact cx.item (s := 2) (n := n) (row := []) (by omega) a (fun v m => nomatch m) (by decide)
      · obtain ⟨n, mn, rfl⟩ := List.mem_map.mp mk
        obtain ⟨v, e⟩ := hk pl mn
        obtain ⟨a, cx⟩ := xL e
        have ec : lOf L n = v := lOf_eq e
        rw [ec]
        exact cx.item (s := 3) (n := n) (row := []) (show 1 ≤ 4 by decide) a (fun v m => nomatch m) (by decide)
  refine ⟨?_, lT⟩
  refine ⟨⟨dr, df, ds, dl, Z, st⟩, ⟨sv, fun m q c e => ?_, fun m q c e => ?_⟩, ⟨b0, b1, b2, rfl⟩, hR, hS, fun m e => ?_, fun m v e => ?_, fun i hi => n3 (List.mem_map.mpr ⟨i, List.mem_range.mpr hi, rfl⟩)⟩
  · obtain ⟨qf, rs, ef, er, lr, hr⟩ := hF (m := m) (by rw [e]; rfl)
    have sh : Short ((lawW F b0 b1 b2).rows m) := fun t mt => by
      rw [er] at mt
      have := LV_row (hr t mt).2 ((hr t mt).1.imp And.right And.right)
      omega
    rcases cR e with ⟨rfl, rfl⟩ | ⟨rfl, rfl⟩
    · refine ⟨⟨c1, rfl, ?_⟩, by rw [lw_p]; decide, by show 1 ≤ 20; decide, by show 20 ≤ 40; decide, ⟨qf, by rw [er]; exact ef⟩, by rw [er]; omega, sh, fun t mt => by rw [lw_p]; exact wid.1 rfl t mt⟩
      rw [lw_p]
      exact n1 List.mem_cons_self
    · refine ⟨⟨c2, rfl, ?_⟩, by rw [lw_q]; decide, by show 1 ≤ 20; decide, by show 20 ≤ 40; decide, ⟨qf, by rw [er]; exact ef⟩, by rw [er]; omega, sh, fun t mt => by rw [lw_q]; exact wid.2 rfl t mt⟩
      rw [lw_q]
      exact n1 (List.mem_cons_of_mem _ List.mem_cons_self)
  · obtain ⟨qp, ep⟩ := pp
    obtain ⟨qq, eq⟩ := pq
    have fp : FT H c1 (colsV (["a", "b"] : List Str)) := n1 List.mem_cons_self
    have fq : FT H c2 (colsV (["c"] : List Str)) := n1 (List.mem_cons_of_mem _ List.mem_cons_self)
    rcases cS e with ⟨rfl, rfl⟩ | ⟨rfl, rfl⟩ | ⟨rfl, rfl⟩ | ⟨rfl, rfl⟩
    · obtain ⟨w1, w2, w3⟩ := lw_s F b0 b1 b2
      rw [w1, w2, w3, lw_p]
      exact ⟨⟨q, zs, qp, c1, 20, e, (n2 List.mem_cons_self).sq, ep, fp⟩, by simp, by decide, by decide +kernel, by decide, h0.1, by omega, by show (1 : Int) ≤ 8; decide, by show (8 : Int) ≤ 8; decide⟩
    · obtain ⟨w1, w2, w3⟩ := lw_t F b0 b1 b2
      rw [w1, w2, w3, lw_p]
      exact ⟨⟨q, zt, qp, c1, 20, e, (n2 (List.mem_cons_of_mem _ List.mem_cons_self)).sq, ep, fp⟩, by simp, by decide, by decide +kernel, by decide, h1.1, by omega, by show (1 : Int) ≤ 8; decide, by show (8 : Int) ≤ 8; decide⟩
    · obtain ⟨w1, w2, w3⟩ := lw_u F b0 b1 b2
      rw [w1, w2, w3, lw_p]
      exact ⟨⟨q, zu, qp, c1, 20, e, (n2 (List.mem_cons_of_mem _ (List.mem_cons_of_mem _ List.mem_cons_self))).sq, ep, fp⟩, by simp, by decide, by decide +kernel, by decide, h2.1, by omega, by show (1 : Int) ≤ 8; decide, by show (8 : Int) ≤ 8; decide⟩
    · obtain ⟨w1, w2, w3⟩ := lw_w F b0 b1 b2
      rw [w1, w2, w3, lw_q]
      exact ⟨⟨q, zw, qq, c2, 20, e, (n2 (List.mem_cons_of_mem _ (List.mem_cons_of_mem _ (List.mem_cons_of_mem _ List.mem_cons_self)))).sq, eq, fq⟩, by simp, by decide, by decide +kernel, by decide, by decide, by decide, by show (1 : Int) ≤ 8; decide, by show (8 : Int) ≤ 8; decide⟩
  · obtain ⟨qf, rs, ef, er, lr, hr⟩ := hF e
    rw [er]
    exact ⟨lr, fun t mt => (hr t mt).2⟩
  · rcases a1 _ (g.l m v e) with z | ⟨_, _, _, z, _⟩
    · rcases List.mem_append.mp z with z | z
      · rcases List.mem_append.mp z with z | z
        · simp only [fix1, List.mem_cons, List.not_mem_nil, or_false] at z
          rcases z with z | z <;> cases z
        · simp only [fix2, List.mem_cons, List.not_mem_nil, or_false] at z
          rcases z with z | z | z | z <;> cases z
      · obtain ⟨i, mi, z⟩ := List.mem_map.mp z
        have := List.mem_range.mp mi
        cases z
        exact ⟨i, by omega, rfl⟩
    · cases z
end K1
namespace K1
open PySem PySem.Spec PyProof.Rows L2 Ow Tlz
/-! how many rows sectors have -/
def hd (s : List Int) : Int := s.headD 0
structure Pk9 (n : Nat) (p : Pk) : Prop where
  nn : 0 ≤ p.cnt
  cl : (p.cur.length : Int) ≤ 9 * p.cnt
  sum : (p.S.map hd).sum + p.cnt = (n : Int)
  full : ∀ s ∈ p.S, 7 ≤ hd s
theorem pk9_0 : Pk9 0 pk0 := ⟨Int.le_refl _, by simp [pk0], by simp [pk0], fun s m => nomatch m⟩
theorem pk9_step {n : Nat} {p : Pk} {c : List Int} (h : Pk9 n p) (hc : c.length ≤ 9) : Pk9 (n + 1) (pkS p c) := by
  obtain ⟨h1, h2, h3, h4⟩ := h
  unfold pkS
  split
  · rename_i z
    refine ⟨(show (0 : Int) ≤ 1 by decide), by show (c.length : Int) ≤ 9 * 1; omega, ?_, fun s m => ?_⟩
    · show ((p.S ++ [p.cnt :: p.cur]).map hd).sum + 1 = ((n + 1 : Nat) : Int)
      rw [List.map_append, List.sum_append]
      show (p.S.map hd).sum + (p.cnt + 0) + 1 = ((n + 1 : Nat) : Int)
      omega
    · rcases List.mem_append.mp m with m | m
      · exact h4 s m
      · obtain rfl : s = p.cnt :: p.cur := by simpa using m
        show 7 ≤ p.cnt
        omega
  · refine ⟨by show 0 ≤ p.cnt + 1; omega, ?_, ?_, h4⟩
    · show ((p.cur ++ c).length : Int) ≤ 9 * (p.cnt + 1)
      rw [List.length_append]
      omega
    · show (p.S.map hd).sum + (p.cnt + 1) = ((n + 1 : Nat) : Int)
      omega
theorem pk9_all : ∀ (cs : List (List Int)) (n : Nat) (p : Pk), Pk9 n p → (∀ c ∈ cs, c.length ≤ 9) → Pk9 (n + cs.length) (cs.foldl pkS p)
  | [], n, p, h, _ => h
  | c :: r, n, p, h, hc => by
    have := pk9_all r (n + 1) (pkS p c) (pk9_step h (hc c List.mem_cons_self)) fun d m => hc d (List.mem_cons_of_mem _ m)
    rw [List.foldl_cons, List.length_cons, show n + (r.length + 1) = n + 1 + r.length by omega]
    exact this
theorem sum7 : ∀ (S : List (List Int)), (∀ s ∈ S, 7 ≤ hd s) → 7 * (S.length : Int) ≤ (S.map hd).sum
  | [], _ => by simp
  | s :: r, h => by
    have h1 := h s List.mem_cons_self
    have h2 := sum7 r fun u m => h u (List.mem_cons_of_mem _ m)
    rw [List.map_cons, List.sum_cons, List.length_cons]
    omega
theorem hd_pad {s : List Int} (h : s ≠ []) : hd (padS s) = hd s ∧ padS s ≠ [] := by
  cases s with
  | nil => exact absurd rfl h
  | cons a r => exact ⟨rfl, fun z => by cases z⟩
def Sml (rs : Rw) : Prop := rs.length ≤ 50 ∧ ∀ t ∈ rs, (rowB t.2).length ≤ 9
theorem Sml.filter {rs : Rw} (h : Sml rs) (p : Addr × List V → Bool) : Sml (rs.filter p) := ⟨Nat.le_trans (List.length_filter_le _ _) h.1, fun t m => h.2 t (List.mem_filter.mp m).1⟩
theorem Sml.short {rs : Rw} (h : Sml rs) : Short rs := fun t m => Nat.le_trans (h.2 t m) (by decide)
/-- the sectors of rows -/
def secS (rs : Rw) : List (List Int) := (pkAll (pkF (codes rs))).map padS
theorem secS_len (rs : Rw) : (secS rs).length = pkn rs := List.length_map _
theorem secS_ok {rs : Rw} (h : Sml rs) : pkn rs ≤ 8 ∧ (∀ s ∈ secS rs, s ≠ []) ∧ ((secS rs).map hd).sum = (rs.length : Int) := by
  have k := pk9_all (codes rs) 0 pk0 pk9_0 fun c m => by
    obtain ⟨t, mt, rfl⟩ := List.mem_map.mp m
    exact h.2 t mt
  rw [Nat.zero_add] at k
  have k : Pk9 (codes rs).length (pkF (codes rs)) := k
  have lc : (codes rs).length = rs.length := List.length_map _
  rw [lc] at k
  obtain ⟨k1, k2, k3, k4⟩ := k
  have k5 := sum7 _ k4
  have hl := h.1
  have ne : ∀ s ∈ pkAll (pkF (codes rs)), s ≠ [] := fun s m => by
    unfold pkAll at m
    have inS : s ∈ (pkF (codes rs)).S → s ≠ [] := fun m z => by
      have := k4 s m
      rw [z] at this
      exact absurd this (by decide)
    split at m
    · rcases List.mem_append.mp m with m | m
      · exact inS m
      · obtain rfl := List.mem_singleton.mp m
        exact fun z => by cases z
    · exact inS m
  have e : ((secS rs).map hd).sum = ((pkAll (pkF (codes rs))).map hd).sum := by
    unfold secS
    rw [List.map_map]
    exact congrArg List.sum (List.map_congr_left fun s m => (hd_pad (ne s m)).1)
  refine ⟨?_, fun s m => ?_, ?_⟩
  · unfold pkn pkAll
    split
    · rw [List.length_append, List.length_singleton]
      omega
    · omega
  · obtain ⟨u, mu, rfl⟩ := List.mem_map.mp m
    exact (hd_pad (ne u mu)).2
  · rw [e]
    unfold pkAll
    split
    · rw [List.map_append, List.sum_append]
      show ((pkF (codes rs)).S.map hd).sum + ((pkF (codes rs)).cnt + 0) = _
      omega
    · omega
theorem fill_ok {rs : Rw} {n : Nat} (h : Sml rs) (hn : 8 ≤ n) : fillO (codes rs) n = some (secS rs ++ List.replicate (n - pkn rs) zero64) ∧ (secS rs ++ List.replicate (n - pkn rs) zero64).length = n := by
  have e := packO_short h.short
  have l := (secS_ok h).1
  have e' : packO (codes rs) = some (secS rs) := e
  constructor
  · unfold fillO
    rw [e']
    show (if n < (secS rs).length then none else some (secS rs ++ List.replicate (n - (secS rs).length) zero64)) = _
    rw [secS_len, if_neg (by omega)]
  · rw [List.length_append, List.length_replicate, secS_len]
    omega
theorem catO_map {xs : List (List (List Int))} : catO (xs.map some) = some xs.flatten := by
  induction xs with
  | nil => rfl
  | cons x r ih =>
    rw [List.map_cons]
    show (catO (r.map some)).map (x ++ ·) = _
    rw [ih]
    rfl
theorem flat_at {α : Type} {s : Nat} : ∀ {xs : List (List α)}, (∀ x ∈ xs, x.length = s) → ∀ {k j : Nat} {x : List α}, xs[k]? = some x → j < s → xs.flatten[k * s + j]? = x[j]?
  | [], _, k, j, x, e, _ => by cases e
  | y :: r, h, k, j, x, e, hj => by
    have hy := h y List.mem_cons_self
    rw [List.flatten_cons]
    cases k with
    | zero =>
      rw [List.getElem?_cons_zero] at e
      cases e
      rw [Nat.zero_mul, Nat.zero_add, List.getElem?_append_left (by omega)]
    | succ k =>
      rw [List.getElem?_cons_succ] at e
      have ih := flat_at (xs := r) (fun u m => h u (List.mem_cons_of_mem _ m)) e hj
      rw [Nat.succ_mul, List.getElem?_append_right (by omega), hy, show k * s + s + j - s = k * s + j by omega]
      exact ih
/-- the part of a shape that is the used sectors of a bucket -/
structure Part (ss : List (List Int)) (k : Nat) (rs : Rw) : Prop where
  at_ : ∀ j, j < pkn rs → ss[k + j]? = (secS rs)[j]?
theorem rel_part {rs : Rw} (h : Sml rs) : ∃ ss, fillO (codes rs) 20 = some ss ∧ Part ss 0 rs := by
  obtain ⟨e, _⟩ := fill_ok h (n := 20) (by decide)
  refine ⟨_, e, ⟨fun j hj => ?_⟩⟩
  rw [Nat.zero_add, List.getElem?_append_left (by rw [secS_len]; exact hj)]
theorem str_part {cs : List V} {w : List Str} {b : Int} {rs : Rw} (h : Sml rs) : ∃ ss, strO cs w b 8 rs = some ss ∧ ∀ k, k < b.toNat → Part ss (k * 8) (rs.filter fun t => decide (bkt cs w b t.2 = (k : Int))) := by
  have e : (grp cs w b rs).map (fun r => fillO (codes r) (8 : Int).toNat) = ((grp cs w b rs).map fun r => secS r ++ List.replicate (8 - pkn r) zero64).map some := by
    rw [List.map_map]
    refine List.map_congr_left fun r m => ?_
    obtain ⟨k, _, rfl⟩ := List.mem_map.mp m
    exact (fill_ok (h.filter _) (n := 8) (Nat.le_refl _)).1
  refine ⟨((grp cs w b rs).map fun r => secS r ++ List.replicate (8 - pkn r) zero64).flatten, ?_, fun k hk => ⟨fun j hj => ?_⟩⟩
  · unfold strO
    rw [e, catO_map]
  · have hf := h.filter fun t => decide (bkt cs w b t.2 = (k : Int))
    have l := (secS_ok hf).1
    have g := grp_at (cs := cs) (w := w) (b := b) (rs := rs) hk
    rw [flat_at (s := 8) (fun x m => ?_) (x := secS (rs.filter fun t => decide (bkt cs w b t.2 = (k : Int))) ++ List.replicate (8 - pkn (rs.filter fun t => decide (bkt cs w b t.2 = (k : Int)))) zero64) (by rw [List.getElem?_map, g]; rfl) (by omega)]
    · rw [List.getElem?_append_left (by rw [secS_len]; exact hj)]
    · obtain ⟨r, mr, rfl⟩ := List.mem_map.mp m
      obtain ⟨k', _, rfl⟩ := List.mem_map.mp mr
      exact (fill_ok (h.filter _) (n := 8) (Nat.le_refl _)).2
end K1
namespace K1
open PySem PySem.Spec PyProof.Rows L2 Ow Tlz
/-! sectors in their order -/
theorem secLe {m : Nm} {a b : Int} (h : a ≤ b) : PySem.W.dataLe false encS (m, a) (m, b) = true := by
  rw [PySem.W.dataLe_eq]
  show (!PySem.W.dataLt (encS (m, b)) (encS (m, a))) = true
  unfold encS
  rw [PySem.W.dataLt_tuple, PySem.W.dataLt_all_yes (by simp [PySem.W.alike, PySem.W.alikeAll]) (by simp [PyData.eqv, PyData.eqvAll])]
  by_cases e : a = b
  · subst e
    rw [PySem.W.dataLt_all_yes (by simp [PySem.W.alike]) (by simp [PyData.eqv])]
    rw [PyProof.Rows.lex_irrefl]
    rfl
  · rw [PySem.W.dataLt_all_no (by simp [PySem.W.alike]) (by simp [PyData.eqv]; omega), PySem.W.dataLt_int]
    simp
    exact h
theorem bsec_nodup (W : Wd) (m : Nm) (k : Nat) : (bsec W m k).Nodup := by
  unfold bsec
  refine List.pairwise_map.mpr (List.nodup_range.imp fun h e => h ?_)
  have := congrArg Prod.snd e
  simp at this
  omega
theorem srt_bsec (W : Wd) (m : Nm) (k : Nat) : srtB (bsec W m k) = bsec W m k := by
  unfold srtB
  refine List.mergeSort_of_pairwise ?_
  unfold bsec
  refine List.pairwise_map.mpr (List.pairwise_lt_range.imp fun h => secLe ?_)
  omega
theorem ddq_same {β : Type} [DecidableEq β] {bs : List β} (h : bs.Nodup) : ddq bs = bs := by
  have := ddq_app [] bs h
  rw [List.nil_append] at this
  rw [this]
  have e : ddq ([] : List β) = [] := rfl
  rw [e, List.nil_append]
  exact List.filter_eq_self.mpr fun x _ => by simp
/-! the ways to a call -/
structure Wy where
  m : Nm
  k : Nat
  rs : Rw
def secW (W : Wd) (y : Wy) : List Sct := bsec W y.m y.k
def bkc (W : Wd) (s : Str) (l : Cl) : Nat := (bkt (W.scs s) (W.cols (W.srel s)) (W.sb s) l.p).toNat
def wyS (W : Wd) (s : Str) (l : Cl) : Wy := ⟨.str s, bkc W s l, (W.rows (W.srel s)).filter fun t => decide (bkt (W.scs s) (W.cols (W.srel s)) (W.sb s) t.2 = (bkc W s l : Int))⟩
def wyR (W : Wd) (l : Cl) : Wy := ⟨.rel l.r, 0, W.rows l.r⟩
def oneW (W : Wd) (l : Cl) (s : Str) : List Wy := if W.srel s = l.r then (if V.non ∈ stVals W s l then [] else [wyS W s l]) else []
def waysS (W : Wd) (l : Cl) (ss : List Str) : List Wy := ss.flatMap (oneW W l)
def bestY (b : Wy) (ys : List Wy) : Wy := ys.foldl (fun b y => if pkn y.rs < pkn b.rs then y else b) b
theorem secW_len (W : Wd) (y : Wy) : (secW W y).length = ((cntN W y.m).getD y.k 0).toNat := by
  unfold secW bsec
  rw [List.length_map, List.length_range]
theorem wyR_len (W : Wd) (l : Cl) : (secW W (wyR W l)).length = pkn (wyR W l).rs := by
  rw [secW_len]
  rfl
theorem wyS_len {W : Wd} {s : Str} {l : Cl} (h : bkc W s l < (W.sb s).toNat) : (secW W (wyS W s l)).length = pkn (wyS W s l).rs := by
  rw [secW_len]
  show (((grp (W.scs s) (W.cols (W.srel s)) (W.sb s) (W.rows (W.srel s))).map fun rs => ((pkn rs : Nat) : Int)).getD (bkc W s l) 0).toNat = _
  rw [List.getD_eq_getElem?_getD, List.getElem?_map, grp_at h]
  rfl
theorem best_eq {W : Wd} {l : Cl} : ∀ (ss : List Str) (b : Wy), (∀ s ∈ ss, W.srel s = l.r → bkc W s l < (W.sb s).toNat) → (secW W b).length = pkn b.rs →
    bestS W l ss (secW W b) = secW W (bestY b (waysS W l ss)) ∧ (secW W (bestY b (waysS W l ss))).length = pkn (bestY b (waysS W l ss)).rs
  | [], b, _, hb => ⟨rfl, hb⟩
  | s :: r, b, hk, hb => by
    have hk' := fun u m => hk u (List.mem_cons_of_mem _ m)
    have e1 : waysS W l (s :: r) = oneW W l s ++ waysS W l r := List.flatMap_cons
    have e2 : bestY b (waysS W l (s :: r)) = bestY (bestY b (oneW W l s)) (waysS W l r) := by
      rw [e1]
      unfold bestY
      rw [List.foldl_append]
    have e3 : bestS W l (s :: r) (secW W b) = bestS W l r (secW W (bestY b (oneW W l s))) ∧ (secW W (bestY b (oneW W l s))).length = pkn (bestY b (oneW W l s)).rs := by
      have e4 : bestS W l (s :: r) (secW W b) = bestS W l r (if W.srel s = l.r then (match inS W s l with
        | none => secW W b
        | some x => if x.length < (secW W b).length then x else secW W b) else secW W b) := rfl
      rw [e4]
      unfold oneW
      by_cases hs : W.srel s = l.r
      · rw [if_pos hs, if_pos hs]
        by_cases hn : V.non ∈ stVals W s l
        · rw [if_pos hn]
          have : inS W s l = none := if_pos hn
          rw [this]
          exact ⟨rfl, hb⟩
        · rw [if_neg hn]
          have : inS W s l = some (secW W (wyS W s l)) := if_neg hn
          rw [this]
          have lw := wyS_len (hk s List.mem_cons_self hs)
          show bestS W l r (if (secW W (wyS W s l)).length < (secW W b).length then secW W (wyS W s l) else secW W b) = _ ∧ _
          rw [lw, hb]
          have e5 : bestY b [wyS W s l] = if pkn (wyS W s l).rs < pkn b.rs then wyS W s l else b := rfl
          rw [e5]
          split
          · exact ⟨rfl, lw⟩
          · exact ⟨rfl, hb⟩
      · rw [if_neg hs, if_neg hs]
        exact ⟨rfl, hb⟩
    rw [e2, e3.1]
    exact best_eq r _ hk' e3.2
end K1
namespace K1
open PySem PySem.Spec PyProof.Rows L2 Ow Tlz
theorem map_get {α β : Type} (f : α → β) (xs : List α) (d : β) : (List.range xs.length).map (fun i => (xs.map f).getD i d) = xs.map f := by
  refine List.ext_getElem? fun i => ?_
  rw [List.getElem?_map]
  rcases Nat.lt_or_ge i xs.length with z | z
  · rw [List.getElem?_range z, List.getElem?_map, List.getElem?_eq_getElem z]
    show some ((xs.map f).getD i d) = _
    rw [List.getD_eq_getElem?_getD, List.getElem?_map, List.getElem?_eq_getElem z]
    rfl
  · rw [List.getElem?_eq_none (by rw [List.length_range]; exact z), List.getElem?_eq_none (by rw [List.length_map]; exact z)]
    rfl
theorem filter_get {α β : Type} (p : α → Bool) (f : α → β) (d : β) (e : Bool) : ∀ (xs : List α), ((List.range xs.length).filter (fun i => (xs.map p).getD i e)).map (fun i => (xs.map f).getD i d) = (xs.filter p).map f := by
  intro xs
  induction xs with
  | nil => rfl
  | cons x r ih =>
    have e1 : List.range (x :: r).length = 0 :: (List.range r.length).map (· + 1) := by
      rw [List.length_cons, List.range_succ_eq_map]
    rw [e1, List.filter_cons]
    have t1 : ((List.range r.length).map (· + 1)).filter (fun i => ((x :: r).map p).getD i e) = ((List.range r.length).filter (fun i => (r.map p).getD i e)).map (· + 1) := by
      rw [List.filter_map]
      rfl
    have t2 : (((List.range r.length).filter (fun i => (r.map p).getD i e)).map (· + 1)).map (fun i => ((x :: r).map f).getD i d) = ((List.range r.length).filter (fun i => (r.map p).getD i e)).map (fun i => (r.map f).getD i d) := by
      rw [List.map_map]
      rfl
    have h0 : ((x :: r).map p).getD 0 e = p x := rfl
    rw [h0, t1]
    cases hp : p x with
    | true =>
      rw [if_pos rfl, List.map_cons, t2, ih, List.filter_cons, if_pos hp, List.map_cons]
      rfl
    | false =>
      rw [if_neg (by decide), t2, ih, List.filter_cons, if_neg (by rw [hp]; decide)]
end K1
namespace K1
open PySem PySem.Spec PyProof.Rows L2 Ow Tlz
abbrev s_law_ways : Stmt := topS 36
abbrev N_law_ways : List Str := ["state", "layout", "call", "rows", "found", "columns", "name", "relation", "named", "buckets", "sectors", "values", "place", "held", "column", "row"]
theorem sc_law_ways : FnScope N_law_ways ["state", "layout", "call"] (defScope s_law_ways) := ⟨rfl, rfl, rfl, by decide +kernel, rfl, by decide +kernel, by decide +kernel⟩
/-- a way, as it is told -/
structure WayAt (K : PySem.W.Frag) (H : Hp) (p a : Addr) (W : Wd) (y : Wy) : Prop where
  ex : ∃ t h, SqT K H a [.int ((pkn y.rs : Nat) : Int), .ref t, .int ((y.k : Int) * roomN W y.m), .ref h] ∧ NmAt K H t y.m ∧ SqL K H h (rrefs y.rs) ∧ h ≠ p
theorem WayAt.same {K : PySem.W.Frag} {H H' : Hp} {p a : Addr} {W : Wd} {y : Wy} (h : WayAt K H p a W y) (s : Same H H') : WayAt K H' p a W y := by
  obtain ⟨t, h', h1, h2, h3, h4⟩ := h.ex
  exact ⟨t, h', sqt_same s h1, h2.same s, s.seq h3, h4⟩
theorem sql_upd {K : PySem.W.Frag} {H : Hp} {p a : Addr} {o : HO} {xs : List V} (h : SqL K H a xs) (n : a ≠ p) : SqL K (upd H p o) a xs := by
  rcases h with (h | ⟨o, h⟩) | h
  · exact .inl (.inl (by rw [upd_ne n]; exact h))
  · exact .inl (.inr ⟨o, by rw [upd_ne n]; exact h⟩)
  · exact .inr h
theorem WayAt.put {K : PySem.W.Frag} {H : Hp} {p a : Addr} {W : Wd} {y : Wy} {xs zs : List V} (h : WayAt K H p a W y) (e : H p = some (.lst xs)) : WayAt K (upd H p (.lst zs)) p a W y := by
  obtain ⟨t, h', h1, h2, h3, h4⟩ := h.ex
  have tk : Tk K H (upd H p (.lst zs)) := Tk.put e
  exact ⟨t, h', tk _ _ h1, tk _ _ h2, sql_upd h3 h4, h4⟩
def WaysAt (K : PySem.W.Frag) (H : Hp) (p : Addr) (W : Wd) (ws : List Wy) : Prop := ∃ ts : List (Addr × Wy), H p = some (.lst (ts.map fun t => V.ref t.1)) ∧ ts.map (·.2) = ws ∧ ∀ t ∈ ts, WayAt K H p t.1 W t.2
theorem filter_dec {b : Bool} (h : b = true) {xs : List Nat} : xs.filter (fun _ => b) = xs := by
  rw [h]
  exact filter_all xs
def ClOk (l : Cl) : Prop := (l.r = "p" ∧ l.p.length = 2) ∨ (l.r = "q" ∧ l.p.length = 1)
def spWays (K : PySem.W.Frag) (C : Addr) : Sp := fun vs H Q _ => ∃ (x lay c : Addr) (ks ss : List Str) (l : Cl) (R : Tb) (F : Fb) (S : Tb) (L : List (Str × V)) (W : Wd) (y : Nat → Addr), vs = [.ref x, .ref lay, .ref c] ∧ LawV K C H x R F S L W y ∧
  LayOk K H lay S ks ss ∧ CallAt K H c l ∧ ClOk l ∧ ∀ H' p, Same H H' → H p = none → WaysAt K H' p W (wyR W l :: waysS W l ss) → Q (.ref p) H'
section
variable {P : Program} {w : World} {K : PySem.W.Frag} {mg : Str → Option Value} {base : Heap} {C : Addr}
theorem ok_ways {f : Addr} {fd : FuncData} (F0 : Fun K "_law_ways" "_law_ways" s_law_ways f fd) (T0 : Bl mg) (X : Txt K mg C) (Dpack : Kn P w K mg base 5 "pack" ["rows"] (spPack K))
    (Dbucket_of_values : Kn P w K mg base 5 "bucket_of_values" ["values", "buckets"] (spBuck K)) (Dbucket : Kn P w K mg base 6 "bucket" ["state", "structure", "row"] (spBucket K C)) :
    FnOk P w K mg base CX0 7 f fd ["state", "layout", "call"] (spWays K C) := by
  refine F0.ok sc_law_ways (fun vs H Q E h => ?_) (fun cdv A outer s0 H vs Q E hr h => ?_)
  · obtain ⟨x, lay, c, ks, ss, l, R, F, S, L, W, y, rfl, _⟩ := h
    rfl
  · obtain ⟨x, lay, c, ks, ss, l, R, F, S, L, W, y, rfl, lv, lo, ca, clo, q⟩ := h
    refine ⟨_, (pss_cons (ps_set (i := 3) sc_law_ways.nd rfl (.inl rfl) (pe_dget2 (hu_of hr) (pe_fld (pv 0) rfl) (pe_ix ix_tup (pv 2) pe_int (fun _ _ => rfl)) (pe_lst pa_nil) ⟨by rfl, by rfl, by rfl, by rfl⟩))
      (pss_cons (ps_set (i := 4) sc_law_ways.nd rfl (.inl rfl) (pe_lst (pa_cons (pe_tup (pa_cons (pe_callB call_len_seq (by rfl) T0.len PySem.boot_len (pa_cons (pe_kn Dpack hr (pa_cons (pe_callTy call_list_of (by rfl) T0.list (by decide +kernel) (pa_cons (pv 3) pa_nil)) pa_nil)) pa_nil)) (pa_cons (pe_tup (pa_cons pe_str (pa_cons (pe_ix ix_tup (pv 2) pe_int (fun _ _ => rfl)) pa_nil))) (pa_cons pe_int (pa_cons (pe_callTy call_list_of (by rfl) T0.list (by decide +kernel) (pa_cons (pv 3) pa_nil)) pa_nil))))) pa_nil)))
      (pss_cons (ps_set (i := 5) sc_law_ways.nd rfl (.inr rfl) (pe_dget (hu_of hr) (pe_disp (pps_cons pe_str (pe_tupF (pa_cons pe_str (pa_cons pe_str pa_nil))) (pps_cons pe_str (pe_tupF (pa_cons pe_str pa_nil)) pps_nil)) (by rfl) (by rfl) (fun z => by cases z) (by decide)) (pe_ix ix_tup (pv 2) pe_int (fun _ _ => rfl)) (fun _ _ => rfl)))
      (pss_cons (ps_for PassesOwn.never rfl (pi_list (pe_callB (cr_sortedTS) (by rfl) T0.sorted (by decide +kernel) (pa_cons (pv 1) pa_nil))) (pg_name (i := 6) sc_law_ways.nd rfl (.inr rfl)) (pss_cons (ps_asg (pe_dget (hu_of hr) (pe_fld (pv 0) rfl) (pv 6) (fun _ _ => rfl)) (pg_tup rfl (pgs_cons (pg_name (i := 7) sc_law_ways.nd rfl (.inr rfl)) (pgs_cons (pg_name (i := 8) sc_law_ways.nd rfl (.inl rfl)) (pgs_cons (pg_name (i := 9) sc_law_ways.nd rfl (.inl rfl)) (pgs_cons (pg_name (i := 10) sc_law_ways.nd rfl (.inl rfl)) pgs_nil))))))
      (pss_cons (ps_setLc (i := 11) (own := [("column", 14)]) (g := gName 14) rfl sc_law_ways.nd rfl rfl (sw_true rfl rfl rfl (by decide +kernel)) (pi_tup (pv 8)) (blkOk_by (own := [("column", 14)]) (N := N_law_ways) (sc := defScope s_law_ways) (by decide +kernel)) (fun _ _ _ _ _ => pg_name (i := 14) sc_law_ways.nd rfl (Or.inl rfl)) (fun _ _ _ _ _ => (pts_one (pt_cmpR op_eq (pv 7) (pe_ix (ix_tup_K rfl) (pv 2) pe_int (fun _ _ => rfl)) (nomark _)))) (fun _ _ _ _ _ => (pe_ix (ix_tup_K (K := K) rfl) (pe_ix (ix_tup_K (K := K) rfl) (pv 2) pe_int (fun _ _ => rfl)) (pe_bmT PySem.F.plainAttrs_tuple PySem.F.slot_tuple_index PySem.F.type_tuple_index (mt_tup_ix_K (K := K) rfl) (pv 5) (pa_cons (pv 14) pa_nil)) (fun _ _ => rfl))))
      (pss_one (ps_if (PW.pt (pw_and (pt_cmpR op_eq (pv 7) (pe_ix ix_tup (pv 2) pe_int (fun _ _ => rfl)) (nomark _)) (pw_and1 (pt_cmpR op_notIn_seq pe_non (pv 11) (by rfl))))) (pss_cons (ps_set (i := 12) sc_law_ways.nd rfl (.inr rfl) (pe_kn Dbucket_of_values hr (pa_cons (pe_callTy call_tuple_of (by rfl) T0.tuple (by decide +kernel) (pa_cons (pv 11) pa_nil)) (pa_cons (pv 9) pa_nil))))
      (pss_cons (ps_setLc (i := 13) (own := [("row", 15)]) (g := gName 15) rfl sc_law_ways.nd rfl rfl (sw_true rfl rfl rfl (by decide +kernel)) (pi_list (pv 3)) (blkOk_by (own := [("row", 15)]) (N := N_law_ways) (sc := defScope s_law_ways) (by decide +kernel)) (fun _ _ _ _ _ => pg_name (i := 15) sc_law_ways.nd rfl (Or.inl rfl)) (fun _ _ _ _ _ => (pts_one (pt_cmpR op_eq (pe_kn Dbucket hr (pa_cons (pv 0) (pa_cons (pv 6) (pa_cons (pv 15) pa_nil)))) (pv 12) (nomark _)))) (fun _ _ _ _ _ => (pv 15)))
      (pss_one (ps_expr (pe_bm PySem.F.plainAttrs_list PySem.F.slot_list_append PySem.F.type_list_append mt_append (pv 4) (pa_cons (pe_tup (pa_cons (pe_callB call_len_seq (by rfl) T0.len PySem.boot_len (pa_cons (pe_kn Dpack hr (pa_cons (pv 13) pa_nil)) pa_nil)) (pa_cons (pe_tup (pa_cons pe_str (pa_cons (pv 6) pa_nil))) (pa_cons (pe_op op_mul (pv 12) (pv 10)) (pa_cons (pv 13) pa_nil))))) pa_nil)))))) pss_nil)))))
      (pss_one (ps_ret (pv 4))))))), ?_⟩
    obtain ⟨qp, hc1, hc2, po, l10⟩ := id ca
    obtain ⟨dr, df, ds, dl, Z, st⟩ := lv.st
    obtain ⟨dx, ob⟩ := st.ob
    have hR : (valG R l.r).isSome = true := (lv.rn l.r).mpr (clo.imp And.left And.left)
    obtain ⟨⟨qr, cR⟩, er⟩ := some_val hR
    obtain ⟨⟨cc, rfl, fc⟩, l4, r1, r40, ⟨qf, ef⟩, lr, sh', wid⟩ := lv.wv.rel _ _ _ er
    -- rows
    refine ⟨_, rfl, x, C, dx, _, _, rfl, ob, X.cl, X.nF, flds_f _ _ _ _, df, rfl, .inl ⟨_, .inl st.f⟩, _, rfl, c, _, 0, .str l.r, rfl, rfl, hc1, at_of (j := 0) rfl rfl, sz 0, fun o no => ?_⟩
    have s1 := Same.new (o := .lst []) no
    have lv1 := lv.same s1
    have lo1 := lo.same s1
    have ca1 := ca.same s1
    have st1 := st.same s1
    generalize (upd H o (.lst [])) = H1 at *
    refine ⟨some (.ref qf), dgetF (.inl st1.f) ef, ?_⟩
    have hq : H1 qf = some (.lst (rrefs (W.rows l.r))) := (st1.ft _ (valG_mem ef)).1
    have ro : RowsOk K H1 (W.rows l.r) := (st1.ft _ (valG_mem ef)).2.1
    have lrows : (W.rows l.r).length ≤ 90 := lr
    -- the relation's way
    refine ⟨_, rfl, qf, _, rfl, .inl (SqL.of hq), fun l1 nl1 => ?_⟩
    have sa := Same.new (o := .lst (rrefs (W.rows l.r))) nl1
    have ea := upd_same (H := H1) (a := l1) (o := .lst (rrefs (W.rows l.r)))
    generalize (upd H1 l1 (.lst (rrefs (W.rows l.r)))) = H2 at *
    refine ⟨l1, W.rows l.r, rfl, SqL.of ea, ro.same sa, by omega, fun y1 H3 sb res => ?_⟩
    rw [packO_short sh'] at res
    obtain ⟨pk, ts, rfl, npk, epk, et, pt, dt, b1, b2⟩ := res
    have lts : (refs ts).length = pkn (W.rows l.r) := by
      have := congrArg List.length et
      rw [List.length_map, List.length_map] at this
      rw [refs_len, this]
      rfl
    have s3 := sa.trans sb
    refine ⟨pk, _, rfl, .inl (SqL.of epk), _, rfl, c, _, 0, .str l.r, rfl, rfl, sqt_same s3 (sqt_same s1 hc1), at_of (j := 0) rfl rfl, sz 2, fun t nt => ?_⟩
    rw [lts]
    have sc := Same.new (o := .tup [.str "relation", .str l.r]) nt
    have ec := upd_same (H := H3) (a := t) (o := .tup [.str "relation", .str l.r])
    generalize (upd H3 t (.tup [.str "relation", .str l.r])) = H4 at *
    have s4 := s3.trans sc
    refine ⟨_, rfl, qf, _, rfl, .inl (SqL.of (s4 _ _ hq)), fun hl nhl => ⟨sz 4, fun wa nwa => ⟨sz 1, fun p np => ?_⟩⟩⟩
    have sd := Same.new (o := .lst (rrefs (W.rows l.r))) nhl
    have ed := upd_same (H := H4) (a := hl) (o := .lst (rrefs (W.rows l.r)))
    have td := sd _ _ ec
    generalize (upd H4 hl (.lst (rrefs (W.rows l.r)))) = H5 at *
    have se := Same.new (o := .tup [.int ((pkn (W.rows l.r) : Nat) : Int), .ref t, .int 0, .ref hl]) nwa
    have ee := upd_same (H := H5) (a := wa) (o := .tup [.int ((pkn (W.rows l.r) : Nat) : Int), .ref t, .int 0, .ref hl])
    have de := se _ _ ed
    have te := se _ _ td
    generalize (upd H5 wa (.tup [.int ((pkn (W.rows l.r) : Nat) : Int), .ref t, .int 0, .ref hl])) = H6 at *
    have sf := Same.new (o := .lst [.ref wa]) np
    have pf := upd_same (H := H6) (a := p) (o := .lst [.ref wa])
    have hlp : hl ≠ p := ne_of_none de np
    have wf := sf _ _ ee
    have df := sf _ _ de
    have tf := sf _ _ te
    have s6 := (s4.trans sd).trans se
    have np0 : H p = none := (s1.trans s6).free np
    have s7 := s6.trans sf
    generalize (upd H6 p (.lst [.ref wa])) = H7 at *
    have way0 : WayAt K H7 p wa W (wyR W l) := ⟨t, hl, SqT.of (by
      show H7 wa = some (.tup [.int ((pkn (W.rows l.r) : Nat) : Int), .ref t, .int (((0 : Nat) : Int) * roomN W (.rel l.r)), .ref hl])
      rw [show (((0 : Nat) : Int) * roomN W (.rel l.r)) = 0 by simp]
      exact wf), SqT.of tf, SqL.of df, hlp⟩
    -- the columns
    refine fun pd npd => ⟨sz 2, fun k1 o1 nk1 d1 z1 => ⟨sz 1, fun k2 o2 nk2 d2 z2 => ⟨?_, [(.inr "p", .ref k1), (.inr "q", .ref k2)], rfl, (show 2 ≤ 15 by decide), ?_⟩⟩⟩
    · have e1 : (upd (upd H7 pd (.dK [])) k1 (.frz o1 (.tup [.str "a", .str "b"]))) pd = some (.dK []) := by
        rw [upd_ne (ne_of_none upd_same nk1)]
        exact upd_same
      rw [upd_ne (ne_of_none e1 nk2)]
      exact e1
    have e1 : (upd (upd H7 pd (.dK [])) k1 (.frz o1 (.tup [.str "a", .str "b"]))) k1 = some (.frz o1 (.tup [.str "a", .str "b"])) := upd_same
    have n1p : pd ≠ k1 := ne_of_none upd_same nk1
    have n2p : pd ≠ k2 := fun z => by
      rw [← z, upd_ne n1p, upd_same] at nk2
      cases nk2
    have n12 : k1 ≠ k2 := ne_of_none e1 nk2
    have sg : Same H7 (upd (upd (upd (upd H7 pd (.dK [])) k1 (.frz o1 (.tup [.str "a", .str "b"]))) k2 (.frz o2 (.tup [.str "c"]))) pd (.dK (mergeK [] [(.inr "p", .ref k1), (.inr "q", .ref k2)]))) := Same.over (((Same.new npd).trans (Same.new nk1)).trans (Same.new nk2)) npd
    have f1 : FT (upd (upd (upd (upd H7 pd (.dK [])) k1 (.frz o1 (.tup [.str "a", .str "b"]))) k2 (.frz o2 (.tup [.str "c"]))) pd (.dK (mergeK [] [(.inr "p", .ref k1), (.inr "q", .ref k2)]))) k1 [.str "a", .str "b"] := ⟨o1, by rw [upd_ne n1p.symm, upd_ne n12]; exact upd_same, d1, z1⟩
    have f2 : FT (upd (upd (upd (upd H7 pd (.dK [])) k1 (.frz o1 (.tup [.str "a", .str "b"]))) k2 (.frz o2 (.tup [.str "c"]))) pd (.dK (mergeK [] [(.inr "p", .ref k1), (.inr "q", .ref k2)]))) k2 [.str "c"] := ⟨o2, by rw [upd_ne n2p.symm]; exact upd_same, d2, z2⟩
    have gd : (upd (upd (upd (upd H7 pd (.dK [])) k1 (.frz o1 (.tup [.str "a", .str "b"]))) k2 (.frz o2 (.tup [.str "c"]))) pd (.dK (mergeK [] [(.inr "p", .ref k1), (.inr "q", .ref k2)]))) pd = some (.dK (mergeK [] [(.inr "p", .ref k1), (.inr "q", .ref k2)])) := upd_same
    generalize (upd (upd (upd (upd H7 pd (.dK [])) k1 (.frz o1 (.tup [.str "a", .str "b"]))) k2 (.frz o2 (.tup [.str "c"]))) pd (.dK (mergeK [] [(.inr "p", .ref k1), (.inr "q", .ref k2)]))) = H8 at *
    have s18 := s7.trans sg
    have s8 := s1.trans s18
    have hcol : ∃ ck, valV (mergeK [] [(.inr "p", .ref k1), (.inr "q", .ref k2)]) (Sum.inr l.r) = some (.ref ck) ∧ FT H8 ck (colsV (W.cols l.r)) := by
      obtain ⟨b0, b1', b2', rfl⟩ := lv.eW
      have em : ∀ k : Key, valV (mergeK [] [((Sum.inr "p" : Key), V.ref k1), ((Sum.inr "q" : Key), V.ref k2)]) k = if k = (Sum.inr "q" : Key) then some (V.ref k2) else if k = (Sum.inr "p" : Key) then some (V.ref k1) else none := fun k => by
        show valV (putK (putK [] (Sum.inr "p" : Key) (V.ref k1)) (Sum.inr "q" : Key) (V.ref k2)) k = _
        rw [valV_put, valV_put]
        rfl
      rcases clo with ⟨e, _⟩ | ⟨e, _⟩
      · rw [e, em, if_neg (fun z => k_qp (Sum.inr.inj z).symm), if_pos rfl, lw_p]
        exact ⟨k1, rfl, f1⟩
      · rw [e, em, if_pos rfl, lw_q]
        exact ⟨k2, rfl, f2⟩
    obtain ⟨ck, vk, fk⟩ := hcol
    have hd : DGet H8 pd (.str l.r) (some (.ref ck)) := by
      rw [← vk]
      exact DGet.k (k := Sum.inr l.r) gd
    refine ⟨_, rfl, c, _, 0, .str l.r, rfl, rfl, sqt_same s8 hc1, at_of (j := 0) rfl rfl, pd, _, rfl, hd, ?_⟩
    -- the structures
    have lo8 := lo.same s8
    refine ⟨_, rfl, lay, ks, rfl, lo8.at_, lo.ln, fun zs sp pz sz' nsp => ?_⟩
    have ez : zs = ss := sortedS_one sz' lo.so (pz.trans lo.pm.symm)
    subst ez
    have sh8 := Same.new (o := .lst (zs.map V.str)) nsp
    have esp := upd_same (H := H8) (a := sp) (o := .lst (zs.map V.str))
    have s9 := s8.trans sh8
    have way1 := way0.same (sg.trans sh8)
    have fk9 : FT (upd H8 sp (.lst (zs.map V.str))) ck (colsV (W.cols l.r)) := (Tk.same (K := K) sh8).x _ _ fk
    have p9 : (upd H8 sp (.lst (zs.map V.str))) p = some (.lst [.ref wa]) := sh8 _ _ (sg _ _ pf)
    have spp : sp ≠ p := fun z => by rw [z, sg _ _ pf] at nsp; cases nsp
    generalize (upd H8 sp (.lst (zs.map V.str))) = H9 at *
    have lv9 := lv.same s9
    refine ⟨sp, rfl, ⟨_, SqL.of esp⟩, for_list (K := K) (a := sp) (xs := zs.map V.str) (fun i σ G => ∃ (y6 y7 y8 y9 y10 y11 y12 y13 y14 y15 : Option V) (us : List (Addr × Wy)), σ = [some (.ref x), some (.ref lay), some (.ref c), some (.ref qf), some (.ref p), some (.ref ck), y6, y7, y8, y9, y10, y11, y12, y13, y14, y15] ∧ Same H G ∧
        G sp = some (.lst (zs.map V.str)) ∧ FT G ck (colsV (W.cols l.r)) ∧ G p = some (.lst (us.map fun t => V.ref t.1)) ∧ us.map (·.2) = wyR W l :: waysS W l (zs.take i) ∧ (∀ t ∈ us, WayAt K G p t.1 W t.2) ∧ us.length ≤ 1 + i)
      ⟨none, none, none, none, none, none, none, none, none, none, [(wa, wyR W l)], rfl, s9, esp, fk9, p9, rfl, (fun t m => by
        obtain rfl : t = (wa, wyR W l) := by simpa using m
        exact way1), Nat.le_refl _⟩ (fun i σ G _ hP => ?_) (fun i y σ G hy hP => ?_) (fun σ G hP => ?_)⟩
    · obtain ⟨_, _, _, _, _, _, _, _, _, _, _, _, _, e, _⟩ := hP
      exact SqL.of e
    · obtain ⟨y6, y7, y8, y9, y10, y11, y12, y13, y14, y15, us, rfl, sG, eSp, fG, eG, em, wG, lG⟩ := hP
      rw [List.getElem?_map] at hy
      obtain ⟨n, en, rfl⟩ := Option.map_eq_some_iff.mp hy
      have il : i < zs.length := (List.getElem?_eq_some_iff.mp en).1
      have lz : zs.length < 64 := by rw [lo.pm.length_eq]; exact lo.ln
      have mn : n ∈ ks := lo.pm.mem_iff.mp (List.mem_of_getElem? en)
      obtain ⟨⟨qs, cs0⟩, es⟩ := some_val (lo.mem n mn)
      have lvG := lv.same sG
      have stG := st.same sG
      have si := lvG.wv.str _ _ _ es
      obtain ⟨qa, cc', qb, cr, r', g1, hcc, g2, hcr⟩ := si.ex
      have hc1G := sqt_same sG hc1
      have hc2G := sqt_same sG hc2
      have eW : waysS W l (zs.take (i + 1)) = waysS W l (zs.take i) ++ oneW W l n := by
        unfold waysS
        rw [take_snoc' en, List.flatMap_append]
        simp
      refine ⟨_, rfl, x, C, dx, _, _, rfl, sG _ _ ob, X.cl, X.nS, flds_s _ _ _ _, _, rfl, ds, _, rfl, dget_n (.inl stG.s) g1, qa, _, rfl, lvG.wv.sv.st _ _ _ g1, rfl, _, _, rfl, _, _, rfl, _, _, rfl, _, _, rfl, rfl, ?_⟩
      -- the values
      have lcs : (W.scs n).length ≤ 4 := si.l
      refine ⟨_, rfl, cc', rfl, ⟨_, hcc⟩, fun D nD => lc_fl (walk_tup (K := K) (a := cc') (xs := W.scs n)) (fun _ => decide (W.srel n = l.r)) (fun i => (valsOf (W.scs n) (W.cols (W.srel n)) l.p).getD i .non) (Nat.lt_of_le_of_lt lcs (by decide)) nD (fun G1 s => sqt_same s hcc) (fun j v G1 G1' N M hj sg1 yy fin fin2 => ?_) fun G1 sg1 eD => ?_⟩
      · obtain ⟨rfl, ev⟩ := yy
        have hc1' := sqt_same sg1 hc1G
        have hc2' := sqt_same sg1 hc2G
        refine ⟨rfl, _, rfl, _, rfl, c, _, 0, .str l.r, rfl, rfl, hc1', at_of (j := 0) rfl rfl, rfl, _, rfl, ?_⟩
        by_cases er2 : W.srel n = l.r
        · refine ite2 (fun _ => ?_) (fun e => absurd (decide_eq_true (congrArg V.str er2)) e)
          have my := List.mem_of_getElem? ev
          have msub := si.sub v my
          obtain ⟨z, rfl, _⟩ := colsV_strs _ v msub
          have lp : l.p.length = (W.cols (W.srel n)).length := by
            obtain ⟨b0, b1', b2', rfl⟩ := lv.eW
            rw [er2]
            rcases clo with ⟨e, e2⟩ | ⟨e, e2⟩
            · rw [e, lw_p, e2]; rfl
            · rw [e, lw_q, e2]; rfl
          obtain ⟨u, hu, mu, eu⟩ := vals_at si lp my
          have fG' := (Tk.same (K := K) sg1).x _ _ fG
          rw [← er2] at fG'
          have fin' := fin (decide_eq_true er2) _ (Same.refl _)
          have ey : (valsOf (W.scs n) (W.cols (W.srel n)) l.p).getD j .non = u := by
            unfold valsOf
            rw [List.getD_eq_getElem?_getD, List.getElem?_map, ev]
            exact eu
          rw [ey] at fin'
          refine ⟨_, rfl, c, _, 1, .ref qp, rfl, rfl, hc1', at_of (j := 1) rfl rfl, _, rfl, ⟨ck, _, rfl, fG'⟩, _, rfl, ck, colsS (W.cols (W.srel n)), z, cix (W.cols (W.srel n)) (.str z), rfl, rfl, by rw [← colsV_S]; exact fG'.sq, ?_, fun m hm e => ?_, qp, l.p, _, u, rfl, rfl, hc2', at_of (j := cix (W.cols (W.srel n)) (.str z)) rfl hu, fin'⟩
          · have := cix_at msub
            rw [colsV_S, List.getElem?_map] at this
            cases c : (colsS (W.cols (W.srel n)))[cix (W.cols (W.srel n)) (V.str z)]? with
            | none => rw [c] at this; cases this
            | some u => rw [c] at this; rw [V.str.inj (Option.some.inj this)]
          · refine cix_min hm ?_
            rw [colsV_S, List.getElem?_map, e]
            rfl
        · refine ite2 (fun e => absurd (V.str.inj (of_decide_eq_true e)) er2) (fun _ => ?_)
          exact fin2 (decide_eq_false er2) _ (Same.refl _)
      have sG1 := sG.trans sg1
      have hc11 := sqt_same sG1 hc1
      have Dp : D ≠ p := fun z => by rw [z, eG] at nD; cases nD
      have eSp1 := sg1 _ _ eSp
      have fG1 := (Tk.same (K := K) sg1).x _ _ fG
      have eG1 := sg1 _ _ eG
      have wG1 : ∀ t ∈ us, WayAt K G1 p t.1 W t.2 := fun t m => (wG t m).same sg1
      refine ⟨_, rfl, _, rfl, c, _, 0, .str l.r, rfl, rfl, hc11, at_of (j := 0) rfl rfl, rfl, _, rfl, ?_⟩
      by_cases er2 : W.srel n = l.r
      · refine ite2 (fun _ => ?_) (fun e => absurd (decide_eq_true (congrArg V.str er2)) e)
        have lp : l.p.length = (W.cols (W.srel n)).length := by
          obtain ⟨b0, b1', b2', rfl⟩ := lv.eW
          rw [er2]
          rcases clo with ⟨e, e2⟩ | ⟨e, e2⟩
          · rw [e, lw_p, e2]; rfl
          · rw [e, lw_q, e2]; rfl
        have eD' : G1 D = some (.lst (stVals W n l)) := by
          rw [eD, filter_dec (decide_eq_true er2)]
          have lv4 : (valsOf (W.scs n) (W.cols (W.srel n)) l.p).length = (W.scs n).length := by
            unfold valsOf
            rw [List.length_map]
          rw [← lv4]
          have := map_get id (valsOf (W.scs n) (W.cols (W.srel n)) l.p) V.non
          rw [List.map_id] at this
          rw [this]
          rfl
        have pv : PatOk (stVals W n l) := fun v m => by
          obtain ⟨y, my, rfl⟩ := List.mem_map.mp m
          obtain ⟨v, hv, mv, ev⟩ := vals_at si lp my
          rw [ev]
          exact po v mv
        obtain ⟨fl, iv⟩ := inV_non pv
        refine ⟨_, rfl, D, _, rfl, .inl (SqL.of eD'), rfl, fl, ?_⟩
        rw [iv]
        refine ⟨_, rfl, ?_⟩
        by_cases z : V.non ∈ stVals W n l
        · rw [decide_eq_true z]
          refine ite2 (fun y => by cases y) fun _ => ?_
          exact ⟨_, _, _, _, _, _, _, _, _, _, us, rfl, sG1, eSp1, fG1, eG1, by rw [em, eW, oneW, if_pos er2, if_pos z, List.append_nil], wG1, by omega⟩
        · rw [decide_eq_false z]
          refine ite2 (fun _ => ?_) fun y => absurd rfl y
          have sc : ∀ v ∈ stVals W n l, Scal v := fun v m => by
            rcases pv v m with e | e
            · rw [e] at m
              exact absurd m z
            · exact e
          have lc : (stVals W n l).length ≤ 10 := by
            unfold stVals valsOf
            rw [List.length_map]
            omega
          refine ⟨_, rfl, D, _, rfl, .inl ⟨SqL.of eD', fun tl ntl => ?_⟩⟩
          have sh := Same.new (o := .tup (stVals W n l)) ntl
          have eT := upd_same (H := G1) (a := tl) (o := .tup (stVals W n l))
          generalize (upd G1 tl (.tup (stVals W n l))) = G2 at *
          have b1 := si.b1
          refine ⟨_, rfl, tl, _, W.sb n, rfl, SqT.of eT, sc, lc, by omega, fun G3 s23 => ?_⟩
          have s13 := sh.trans s23
          have sG3 := sG1.trans s13
          obtain ⟨k0, k1⟩ := bkt_lt si l.p
          have ek : (bkc W n l : Int) = bkt (W.scs n) (W.cols (W.srel n)) (W.sb n) l.p := by
            unfold bkc
            omega
          have eb : buk (rowB (stVals W n l)) % W.sb n = (bkc W n l : Int) := ek.symm
          rw [eb]
          -- the rows of the bucket
          have hqf : ∀ {G : Hp}, Same H G → G qf = some (.lst (rrefs (W.rows l.r))) := fun s => ((st.same s).ft _ (valG_mem ef)).1
          have hro : ∀ {G : Hp}, Same H G → RowsOk K G (W.rows l.r) := fun s => ((st.same s).ft _ (valG_mem ef)).2.1
          have lrr : (rrefs (W.rows l.r)).length = (W.rows l.r).length := List.length_map _
          refine ⟨_, rfl, qf, rfl, ⟨_, SqL.of (hqf sG3)⟩, fun D2 nD2 => lc_fl (walk_list (K := K) (a := qf) (xs := rrefs (W.rows l.r))) (fun i => ((W.rows l.r).map fun t => decide (bkt (W.scs n) (W.cols (W.srel n)) (W.sb n) t.2 = (bkc W n l : Int))).getD i false) (fun i => ((W.rows l.r).map fun t => V.ref t.1).getD i .non) (by rw [lrr]; exact Nat.lt_of_le_of_lt lrows (by decide)) nD2
            (fun G4 s => s.seq (SqL.of (hqf sG3))) (fun j v G4 G4' N M hj s34 yy fin fin2 => ?_) fun G4 s34 eD2 => ?_⟩
          · obtain ⟨rfl, ev⟩ := yy
            obtain ⟨t, et, rfl⟩ := rrefs_get ev
            have mt := List.mem_of_getElem? et
            have sG4 := sG3.trans s34
            have lv4 := lv.same sG4
            obtain ⟨htt, stt, ltt⟩ := hro sG4 t mt
            have e1 : ((W.rows l.r).map fun t => decide (bkt (W.scs n) (W.cols (W.srel n)) (W.sb n) t.2 = (bkc W n l : Int))).getD j false = decide (bkt (W.scs n) (W.cols (W.srel n)) (W.sb n) t.2 = (bkc W n l : Int)) := by
              rw [List.getD_eq_getElem?_getD, List.getElem?_map, et]
              rfl
            have e2 : ((W.rows l.r).map fun t => V.ref t.1).getD j .non = V.ref t.1 := by
              rw [List.getD_eq_getElem?_getD, List.getElem?_map, et]
              rfl
            rw [e1] at fin fin2
            rw [e2] at fin
            refine ⟨rfl, _, rfl, _, rfl, _, rfl, x, t.1, n, W.srel n, R, S, F, W.scs n, W.cols (W.srel n), W.sb n, W.ss n, t.2, rfl, lv4.wv.sv, lv4.wv.str _ _ _ es, htt, stt, by rw [er2]; exact wid t mt, fun G5 s45 => ?_⟩
            refine ⟨_, rfl, rfl, _, rfl, ?_⟩
            by_cases y : bkt (W.scs n) (W.cols (W.srel n)) (W.sb n) t.2 = (bkc W n l : Int)
            · exact ite2 (fun _ => ⟨_, rfl, fin (decide_eq_true y) _ s45⟩) (fun e => absurd (decide_eq_true (congrArg V.int y)) e)
            · exact ite2 (fun e => absurd (V.int.inj (of_decide_eq_true e)) y) (fun _ => fin2 (decide_eq_false y) _ s45)
          rw [lrr, filter_get] at eD2
          have eD3 : G4 D2 = some (.lst (rrefs (wyS W n l).rs)) := by
            rw [eD2]
            unfold wyS
            rw [er2]
            rfl
          have sG4 := sG3.trans s34
          have sub : ∀ t ∈ (wyS W n l).rs, t ∈ W.rows l.r := fun t m => by
            unfold wyS at m
            rw [er2] at m
            exact (List.mem_filter.mp m).1
          have lh : (wyS W n l).rs.length ≤ 90 := by
            unfold wyS
            rw [er2]
            exact Nat.le_trans (List.length_filter_le _ _) lrows
          have D2p : D2 ≠ p := fun z => by
            rw [z, s13 _ _ eG1] at nD2
            cases nD2
          refine ⟨_, rfl, .inl ⟨rfl, ⟨_, SqL.of ((s13.trans s34) _ _ eG1)⟩⟩, ?_⟩
          refine ⟨_, rfl, D2, (wyS W n l).rs, rfl, SqL.of eD3, fun t m => hro sG4 t (sub t m), by omega, fun y1 G5 s45 res => ?_⟩
          rw [packO_short (fun t m => sh' t (sub t m))] at res
          obtain ⟨pk2, ts2, rfl, npk2, epk2, et2, pt2, dt2, b12, b22⟩ := res
          have lts2 : (refs ts2).length = pkn (wyS W n l).rs := by
            have := congrArg List.length et2
            rw [List.length_map, List.length_map] at this
            rw [refs_len, this]
            rfl
          refine ⟨pk2, _, rfl, .inl (SqL.of epk2), _, rfl, sz 2, fun t2 nt2 => ?_⟩
          rw [lts2]
          have s56 := Same.new (o := .tup [.str "structure", .str n]) nt2
          have et6 := upd_same (H := G5) (a := t2) (o := .tup [.str "structure", .str n])
          generalize (upd G5 t2 (.tup [.str "structure", .str n])) = G6 at *
          have i2 := si.s2
          have i1 := si.s1
          refine ⟨_, rfl, _, rfl, _, _, rfl, rfl, .inr ⟨by omega, by omega⟩, _, rfl, sz 4, fun w2 nw2 => ?_⟩
          have s67 := Same.new (o := .tup [.int ((pkn (wyS W n l).rs : Nat) : Int), .ref t2, .int ((bkc W n l : Int) * W.ss n), .ref D2]) nw2
          have ew7 := upd_same (H := G6) (a := w2) (o := .tup [.int ((pkn (wyS W n l).rs : Nat) : Int), .ref t2, .int ((bkc W n l : Int) * W.ss n), .ref D2])
          have et7 := s67 _ _ et6
          have ed7 := s67 _ _ (s56 _ _ (s45 _ _ eD3))
          have s17 := (((s13.trans s34).trans s45).trans s56).trans s67
          have eG7 := s17 _ _ eG1
          have eSp7 := s17 _ _ eSp1
          have fG7 := (Tk.same (K := K) s17).x _ _ fG1
          have wG7 : ∀ t ∈ us, WayAt K _ p t.1 W t.2 := fun t m => (wG1 t m).same s17
          have sG7 := sG1.trans s17
          have new : WayAt K _ p w2 W (wyS W n l) := ⟨t2, D2, SqT.of ew7, SqT.of et7, SqL.of ed7, D2p⟩
          generalize (upd G6 w2 (.tup [.int ((pkn (wyS W n l).rs : Nat) : Int), .ref t2, .int ((bkc W n l : Int) * W.ss n), .ref D2])) = G7 at *
          have tkP : Tk K G7 (upd G7 p (.lst ((us.map fun t => V.ref t.1) ++ [.ref w2]))) := Tk.put eG7
          refine ⟨p, _, _, rfl, rfl, eG7, by rw [List.length_map]; exact Nat.lt_of_le_of_lt lG (by show 1 + i < _; exact Nat.lt_of_lt_of_le (show 1 + i < 100 by omega) (by decide)), ?_⟩
          refine ⟨_, _, _, _, _, _, _, _, _, _, us ++ [(w2, wyS W n l)], rfl, Same.over sG7 np0, ?_, tkP.x _ _ fG7, by rw [upd_same, List.map_append]; rfl, ?_, fun t m => ?_, ?_⟩
          · rw [upd_ne spp]
            exact eSp7
          · rw [List.map_append, em, eW, oneW, if_pos er2, if_neg z]
            rfl
          · rcases List.mem_append.mp m with m | m
            · exact (wG7 t m).put eG7
            · obtain rfl : t = (w2, wyS W n l) := by simpa using m
              exact new.put eG7
          · rw [List.length_append, List.length_singleton]
            omega
      · refine ite2 (fun e => absurd (V.str.inj (of_decide_eq_true e)) er2) (fun _ => ?_)
        refine ite2 (fun e => by cases e) (fun _ => ?_)
        exact ⟨_, _, _, _, _, _, _, _, _, _, us, rfl, sG1, eSp1, fG1, eG1, by rw [em, eW, oneW, if_neg er2, List.append_nil], wG1, by omega⟩
    · obtain ⟨_, _, _, _, _, _, _, _, _, _, us, rfl, sG, _, _, eG, em, wG, _⟩ := hP
      rw [List.length_map, List.take_length] at em
      exact ⟨_, rfl, q G p sG np0 ⟨us, eG, em, wG⟩⟩
end
end K1
namespace K1
open PySem PySem.Spec PyProof.Rows L2 Ow Tlz
abbrev s_law_call : Stmt := topS 35
abbrev N_law_call : List Str := ["number", "first", "second"]
theorem sc_law_call : FnScope N_law_call ["number"] (defScope s_law_call) := ⟨rfl, rfl, rfl, by decide +kernel, rfl, by decide +kernel, by decide +kernel⟩
def ClLV (l : Cl) : Prop := ∀ v ∈ l.p, v = .non ∨ v ∈ LV
theorem pick2 (v : V) (a : Int) : ∃ u, atI [V.non, v] (a % 2) = some u ∧ (u = .non ∨ u = v) := by
  have : a % 2 = 0 ∨ a % 2 = 1 := by omega
  rcases this with e | e <;> rw [e]
  · exact ⟨_, at_of (j := 0) rfl rfl, .inl rfl⟩
  · exact ⟨_, at_of (j := 1) rfl rfl, .inr rfl⟩
def spLCall (K : PySem.W.Frag) : Sp := fun vs H Q _ => ∃ d : Int, vs = [.int d] ∧ ∀ H' c l, Same H H' → CallAt K H' c l → ClOk l → ClLV l → Q (.ref c) H'
section
variable {P : Program} {w : World} {K : PySem.W.Frag} {mg : Str → Option Value} {base : Heap}
theorem ok_lcall {f : Addr} {fd : FuncData} (F0 : Fun K "_law_call" "_law_call" s_law_call f fd) (T0 : Bl mg) (D_law_value : Kn P w K mg base 1 "_law_value" ["number"] spLValue) :
    FnOk P w K mg base CX0 2 f fd ["number"] (spLCall K) := by
  refine F0.ok sc_law_call (fun vs H Q E h => ?_) (fun cdv A outer s0 H vs Q E hr h => ?_)
  · obtain ⟨d, rfl, _⟩ := h
    rfl
  · obtain ⟨d, rfl, q⟩ := h
    refine ⟨_, (pss_cons (ps_if (pt_cmpR op_eq (pe_op op_mod (pv 0) pe_int) pe_int (nomark _)) (pss_one (ps_ret (pe_tup (pa_cons pe_str (pa_cons (pe_tup (pa_cons (pe_ix ix_list (pe_lst (pa_cons pe_non (pa_cons (pe_kn D_law_value hr (pa_cons (pe_op op_fdiv (pv 0) pe_int) pa_nil)) pa_nil))) (pe_op op_mod (pe_op op_fdiv (pv 0) pe_int) pe_int) (fun _ _ => rfl)) pa_nil)) pa_nil))))) pss_nil)
      (pss_cons (ps_set (i := 1) sc_law_call.nd rfl (.inl rfl) (pe_ix ix_list (pe_lst (pa_cons pe_non (pa_cons (pe_kn D_law_value hr (pa_cons (pe_op op_fdiv (pv 0) pe_int) pa_nil)) pa_nil))) (pe_op op_mod (pe_op op_fdiv (pv 0) pe_int) pe_int) (fun _ _ => rfl)))
      (pss_cons (ps_set (i := 2) sc_law_call.nd rfl (.inl rfl) (pe_ix ix_list (pe_lst (pa_cons pe_non (pa_cons (pe_kn D_law_value hr (pa_cons (pe_op op_fdiv (pv 0) pe_int) pa_nil)) pa_nil))) (pe_op op_mod (pe_op op_fdiv (pv 0) pe_int) pe_int) (fun _ _ => rfl)))
      (pss_one (ps_ret (pe_tup (pa_cons pe_str (pa_cons (pe_tup (pa_cons (pv 1) (pa_cons (pv 2) pa_nil))) pa_nil)))))))), ?_⟩
    have pk : ∀ {u v : V}, (u = .non ∨ u = v) → v ∈ LV → u = .non ∨ u ∈ LV := fun h m => h.imp id fun e => by rw [e]; exact m
    have ps : ∀ {u : V}, (u = .non ∨ u ∈ LV) → u = .non ∨ Scal u := fun h => h.imp id LV_sc
    refine ⟨_, rfl, _, _, rfl, rfl, (by show (0 : Int) < 6; decide), rfl, _, rfl, ite2 (fun _ => ?_) (fun _ => ?_)⟩
    · refine ⟨_, rfl, _, _, rfl, rfl, ⟨by decide, by decide⟩, _, rfl, fun v mv => ⟨sz 2, fun p np => ?_⟩⟩
      have s1 := Same.new (o := .lst [.non, v]) np
      have e1 := upd_same (H := H) (a := p) (o := .lst [.non, v])
      generalize (upd H p (.lst [.non, v])) = H1 at *
      obtain ⟨u, eu, hu⟩ := pick2 v (d / 6)
      refine ⟨_, rfl, _, _, rfl, rfl, ⟨by decide, by decide⟩, _, _, rfl, rfl, (by show (0 : Int) < 2; decide), p, _, _, u, rfl, rfl, SqL.of e1, eu, sz 1, fun t nt => ⟨sz 2, fun c nc => ?_⟩⟩
      have s2 := Same.new (o := .tup [u]) nt
      have e2 := upd_same (H := H1) (a := t) (o := .tup [u])
      generalize (upd H1 t (.tup [u])) = H2 at *
      have s3 := Same.new (o := .tup [.str "q", .ref t]) nc
      have hu' := pk hu mv
      refine q _ c ⟨"q", [u]⟩ ((s1.trans s2).trans s3) ⟨t, SqT.of upd_same, SqT.of (s3 _ _ e2), fun x m => ?_, by show 1 ≤ 10; decide⟩ (.inr ⟨rfl, rfl⟩) fun x m => ?_
      · rw [List.mem_singleton.mp m]
        exact ps hu'
      · rw [List.mem_singleton.mp m]
        exact hu'
    · refine ⟨_, rfl, _, _, rfl, rfl, ⟨by decide, by decide⟩, _, rfl, fun v mv => ⟨sz 2, fun p np => ?_⟩⟩
      have s1 := Same.new (o := .lst [.non, v]) np
      have e1 := upd_same (H := H) (a := p) (o := .lst [.non, v])
      generalize (upd H p (.lst [.non, v])) = H1 at *
      obtain ⟨u, eu, hu⟩ := pick2 v (d / 6)
      refine ⟨_, rfl, _, _, rfl, rfl, ⟨by decide, by decide⟩, _, _, rfl, rfl, (by show (0 : Int) < 2; decide), p, _, _, u, rfl, rfl, SqL.of e1, eu, ?_⟩
      refine ⟨_, rfl, _, _, rfl, rfl, ⟨by decide, by decide⟩, _, rfl, fun v2 mv2 => ⟨sz 2, fun p2 np2 => ?_⟩⟩
      have s2 := Same.new (o := .lst [.non, v2]) np2
      have e2 := upd_same (H := H1) (a := p2) (o := .lst [.non, v2])
      generalize (upd H1 p2 (.lst [.non, v2])) = H2 at *
      obtain ⟨u2, eu2, hu2⟩ := pick2 v2 (d / 18)
      refine ⟨_, rfl, _, _, rfl, rfl, ⟨by decide, by decide⟩, _, _, rfl, rfl, (by show (0 : Int) < 2; decide), p2, _, _, u2, rfl, rfl, SqL.of e2, eu2, ?_⟩
      refine ⟨_, rfl, _, rfl, sz 2, fun t nt => ⟨sz 2, fun c nc => ?_⟩⟩
      have s3 := Same.new (o := .tup [u, u2]) nt
      have e3 := upd_same (H := H2) (a := t) (o := .tup [u, u2])
      generalize (upd H2 t (.tup [u, u2])) = H3 at *
      have s4 := Same.new (o := .tup [.str "p", .ref t]) nc
      have h1 := pk hu mv
      have h2 := pk hu2 mv2
      refine q _ c ⟨"p", [u, u2]⟩ (((s1.trans s2).trans s3).trans s4) ⟨t, SqT.of upd_same, SqT.of (s4 _ _ e3), fun x m => ?_, by show 2 ≤ 10; decide⟩ (.inl ⟨rfl, rfl⟩) fun x m => ?_
      · rcases List.mem_cons.mp m with rfl | m
        · exact ps h1
        · rw [List.mem_singleton.mp m]
          exact ps h2
      · rcases List.mem_cons.mp m with rfl | m
        · exact h1
        · rw [List.mem_singleton.mp m]
          exact h2
end
end K1
namespace K1
open PySem PySem.Spec PyProof.Rows L2 Ow Tlz
/-! data of sectors and rows -/
def NmL : List Nm := [.rel "p", .rel "q", .str "s", .str "t", .str "u", .str "w"]
theorem NmL_ok : ∀ m ∈ NmL, PyData.strOk (nmW m) = true ∧ PyData.strOk (nmN m) = true := by decide +kernel
theorem encS_lay {b : Sct} (h : b.1 ∈ NmL) : (encS b).canLay0 = true := by
  obtain ⟨h1, h2⟩ := NmL_ok b.1 h
  unfold encS
  simp [PyData.canLay0, PyData.canLayAll0, h1, h2]
theorem encS_dep2 (b : Sct) : (encS b).depth = 2 := by
  unfold encS
  simp [PyData.depth, PyData.depthAll]
theorem list_shaped {ds : List PyData} {n : Nat} (h : ∀ d ∈ ds, d.canLay0 = true ∧ d.depth ≤ n) (hn : n < 64) : SeqAt.shaped (.list ds) = true := by
  have a : PyData.canLayAll0 ds = true ∧ PyData.depthAll ds ≤ n := by
    induction ds with
    | nil => exact ⟨rfl, Nat.zero_le _⟩
    | cons d r ih =>
      obtain ⟨h1, h2⟩ := h d List.mem_cons_self
      obtain ⟨h3, h4⟩ := ih fun e m => h e (List.mem_cons_of_mem _ m)
      refine ⟨by simp [PyData.canLayAll0, h1, h3], ?_⟩
      show max d.depth (PyData.depthAll r) ≤ n
      omega
  unfold SeqAt.shaped
  simp [PyData.canLay0, PyData.depth, a.1]
  omega
theorem secs_shaped {bs : List Sct} (h : ∀ b ∈ bs, b.1 ∈ NmL) : SeqAt.shaped (.list (bs.map encS)) = true :=
  list_shaped (n := 2) (fun d m => by
    obtain ⟨b, mb, rfl⟩ := List.mem_map.mp m
    exact ⟨encS_lay (h b mb), by rw [encS_dep2]; exact Nat.le_refl _⟩) (by decide)
theorem encS_alike (a b : Sct) : PySem.W.alike (encS a) (encS b) = true := by unfold encS; simp [PySem.W.alike, PySem.W.alikeAll]
theorem secs_eqv (bs : List Sct) : PyData.eqv (.list (bs.map encS)) (.list (bs.map encS)) = true := by
  refine PySem.W.eqv_refl_alike _ ?_
  have : PySem.W.alikeAll (bs.map encS) (bs.map encS) = true := by
    induction bs with
    | nil => simp [PySem.W.alikeAll]
    | cons b r ih => simp only [List.map_cons, PySem.W.alikeAll, encS_alike, ih, Bool.and_self]
  simpa [PySem.W.alike] using this
theorem Sec.dp {K : PySem.W.Frag} {H : Hp} {p : Addr} {bs : List Sct} (h : Sec K H p bs) : Dp K H (.ref p) (.list (bs.map encS)) := by
  obtain ⟨ts, h1, h2, h3⟩ := h
  rw [← h2]
  exact .lst h1 (secs_in h3)
theorem vDt_ok : ∀ v ∈ LV, (vDt v).canLay0 = true ∧ (vDt v).depth = 0 := by decide +kernel
theorem rwD_dpL {K : PySem.W.Frag} {H : Hp} {a : Addr} {row : List V} (h : SqT K H a row) (lv : ∀ v ∈ row, v ∈ LV) : Dp K H (.ref a) (rwD row) := rwD_dp h fun v m => LV_sc (lv v m)
theorem rwD_lay {row : List V} (lv : ∀ v ∈ row, v ∈ LV) : (rwD row).canLay0 = true ∧ (rwD row).depth ≤ 1 := by
  have a : PyData.canLayAll0 (row.map vDt) = true ∧ PyData.depthAll (row.map vDt) = 0 := by
    induction row with
    | nil => exact ⟨rfl, rfl⟩
    | cons v r ih =>
      obtain ⟨h1, h2⟩ := vDt_ok v (lv v List.mem_cons_self)
      obtain ⟨h3, h4⟩ := ih fun u m => lv u (List.mem_cons_of_mem _ m)
      refine ⟨by simp [PyData.canLayAll0, h1, h3], ?_⟩
      show max (vDt v).depth (PyData.depthAll (r.map vDt)) = 0
      omega
  unfold rwD
  simp [PyData.canLay0, PyData.depth, a.1, a.2]
theorem rwD_shaped {row : List V} (lv : ∀ v ∈ row, v ∈ LV) : SeqAt.shaped (rwD row) = true := by
  obtain ⟨h1, h2⟩ := rwD_lay lv
  unfold SeqAt.shaped
  rw [h1]
  simp
  omega
theorem rwD_eqv (row : List V) : PyData.eqv (rwD row) (rwD row) = true := by
  refine PySem.W.eqv_refl_alike _ ?_
  have : PySem.W.alikeAll (row.map vDt) (row.map vDt) = true := by
    induction row with
    | nil => simp [PySem.W.alikeAll]
    | cons b r ih =>
      rw [List.map_cons, PySem.W.alikeAll, ih, Bool.and_true]
      cases b <;> simp [vDt, PySem.W.alike]
  simpa [rwD, PySem.W.alike] using this
theorem rows_dp {K : PySem.W.Frag} {H : Hp} {a : Addr} {rs : Rw} (h : SqL K H a (rrefs rs)) (ro : ∀ t ∈ rs, SqT K H t.1 t.2) (lv : ∀ t ∈ rs, ∀ v ∈ t.2, v ∈ LV) : Dp K H (.ref a) (.list (rs.map fun t => rwD t.2)) := by
  refine .lst h ?_
  clear h
  induction rs with
  | nil => exact .nil
  | cons t r ih => exact .cons (rwD_dpL (ro t List.mem_cons_self) (lv t List.mem_cons_self)) (ih (fun u m => ro u (List.mem_cons_of_mem _ m)) fun u m => lv u (List.mem_cons_of_mem _ m))
theorem rows_shaped {rs : Rw} (lv : ∀ t ∈ rs, ∀ v ∈ t.2, v ∈ LV) : SeqAt.shaped (.list (rs.map fun t => rwD t.2)) = true :=
  list_shaped (n := 1) (fun d m => by
    obtain ⟨t, mt, rfl⟩ := List.mem_map.mp m
    exact rwD_lay (lv t mt)) (by decide)
/-- the row is there -/
theorem rows_any {rs : Rw} {t : Addr × List V} (m : t ∈ rs) : (rs.map fun t => rwD t.2).any (fun z => PyData.eqv z (rwD t.2)) = true :=
  List.any_eq_true.mpr ⟨_, List.mem_map.mpr ⟨t, m, rfl⟩, rwD_eqv _⟩
/-! the best of the ways, from none on -/
def stepO (o : Option Wy) (y : Wy) : Option Wy := match o with
  | none => some y
  | some b => some (if pkn y.rs < pkn b.rs then y else b)
def bestO (ys : List Wy) : Option Wy := ys.foldl stepO none
theorem bestO_some : ∀ (ys : List Wy) (b : Wy), ys.foldl stepO (some b) = some (bestY b ys)
  | [], _ => rfl
  | y :: r, b => by
    show r.foldl stepO (some (if pkn y.rs < pkn b.rs then y else b)) = _
    rw [bestO_some r]
    rfl
theorem bestO_cons (b : Wy) (ys : List Wy) : bestO (b :: ys) = some (bestY b ys) := bestO_some ys b
theorem bestO_snoc {ys : List Wy} {y : Wy} : bestO (ys ++ [y]) = stepO (bestO ys) y := by
  unfold bestO
  rw [List.foldl_append]
  rfl
theorem bestY_mem : ∀ (ys : List Wy) (b : Wy), bestY b ys = b ∨ bestY b ys ∈ ys
  | [], _ => .inl rfl
  | y :: r, b => by
    have e : bestY b (y :: r) = bestY (if pkn y.rs < pkn b.rs then y else b) r := rfl
    rw [e]
    rcases bestY_mem r (if pkn y.rs < pkn b.rs then y else b) with h | h
    · rw [h]
      split
      · exact .inr List.mem_cons_self
      · exact .inl rfl
    · exact .inr (List.mem_cons_of_mem _ h)
/-! rows that meet a call -/
def Meets (l : Cl) (row : List V) : Prop := ∀ (j : Nat) v d, row[j]? = some v → l.p[j]? = some d → d = .non ∨ v = d
theorem meets_vals {K : PySem.W.Frag} {H : Hp} {R S : Tb} {n rn : Str} {cs : List V} {w : List Str} {b s : Int} (si : SInfo K H R S n rn cs w b s) {l : Cl} {row : List V} (lr : row.length = w.length) (lp : l.p.length = w.length) (m : Meets l row) (nn : V.non ∉ valsOf cs w l.p) :
    bkt cs w b row = bkt cs w b l.p := by
  have : valsOf cs w row = valsOf cs w l.p := by
    unfold valsOf at nn ⊢
    refine List.map_congr_left fun x mx => ?_
    obtain ⟨v, hv, _, ev⟩ := vals_at si lr mx
    obtain ⟨d, hd, _, ed⟩ := vals_at si lp mx
    rw [ev, ed]
    rcases m _ v d hv hd with z | z
    · exact absurd (List.mem_map.mpr ⟨x, mx, by rw [ed, z]⟩) nn
    · exact z
  unfold bkt
  rw [this]
end K1
namespace Ow
open PySem PySem.Spec PyProof.Rows L2
theorem op_notInD_K {X : Cx} {K : PySem.W.Frag} (e : X.K = K) (hu : X.A.units + 65 < cLine) : OpR X (compareOp .NotIn) (rNotInD K) := by
  subst e
  exact op_notInD hu
end Ow
namespace K1
open PySem PySem.Spec PyProof.Rows L2 Ow Tlz
abbrev s_law_read : Stmt := topS 37
abbrev N_law_read : List Str := ["state", "layout", "call", "best", "way", "due", "shape", "count", "meeting", "row", "fits", "k", "place", "index", "value", "due_value"]
theorem sc_law_read : FnScope N_law_read ["state", "layout", "call"] (defScope s_law_read) := ⟨rfl, rfl, rfl, by decide +kernel, rfl, by decide +kernel, by decide +kernel⟩
theorem stepO_some (b y : Wy) : stepO (some b) y = some (if pkn y.rs < pkn b.rs then y else b) := rfl
theorem best_case {W : Wd} {l : Cl} {ss : List Str} {b : Wy} (h : bestY (wyR W l) (waysS W l ss) = b) : b = wyR W l ∨ ∃ n ∈ ss, W.srel n = l.r ∧ V.non ∉ stVals W n l ∧ b = wyS W n l := by
  rcases bestY_mem (waysS W l ss) (wyR W l) with e | e
  · exact .inl (h ▸ e)
  · rw [h] at e
    obtain ⟨n, mn, e⟩ := List.mem_flatMap.mp e
    unfold oneW at e
    by_cases h1 : W.srel n = l.r
    · rw [if_pos h1] at e
      by_cases h2 : V.non ∈ stVals W n l
      · rw [if_pos h2] at e
        nomatch e
      · rw [if_neg h2] at e
        exact .inr ⟨n, mn, h1, h2, List.mem_singleton.mp e⟩
    · rw [if_neg h1] at e
      nomatch e
def mism (row p : List V) (i : Nat) : Bool := match row[i]?, p[i]? with
  | some v, some d => decide (d ≠ .non ∧ v ≠ d)
  | _, _ => false
theorem mism_none {row : List V} {l : Cl} (h : ∀ i, i < min row.length l.p.length → mism row l.p i = false) : Meets l row := fun j v d h1 h2 => by
  have a := (List.getElem?_eq_some_iff.mp h1).1
  have b := (List.getElem?_eq_some_iff.mp h2).1
  have := h j (by omega)
  unfold mism at this
  rw [h1, h2] at this
  have := of_decide_eq_false this
  by_cases e : d = .non
  · exact .inl e
  · by_cases e2 : v = d
    · exact .inr e2
    · exact absurd ⟨e, e2⟩ this
def spLRead (K : PySem.W.Frag) (C : Addr) : Sp := fun vs H Q _ => ∃ (x lay c : Addr) (ks ss : List Str) (l : Cl) (R : Tb) (F : Fb) (S : Tb) (L : List (Str × V)) (W : Wd) (y : Nat → Addr), vs = [.ref x, .ref lay, .ref c] ∧ LawV K C H x R F S L W y ∧
  LayOk K H lay S ks ss ∧ CallAt K H c l ∧ ClOk l ∧ ClLV l ∧ ∀ H' p, Same H H' → Sec K H' p (callS R W ss l) → Q (.ref p) H'
section
variable {P : Program} {w : World} {K : PySem.W.Frag} {mg : Str → Option Value} {base : Heap} {C : Addr}
theorem ok_lread {f : Addr} {fd : FuncData} (F0 : Fun K "_law_read" "_law_read" s_law_read f fd) (T0 : Bl mg) (hzip : mg "zip" = none) (hrep : mg "repr" = none) (X : Txt K mg C) (D_law_ways : Kn P w K mg base 7 "_law_ways" ["state", "layout", "call"] (spWays K C))
    (Dread_sectors : Kn P w K mg base 14 "read_sectors" ["state", "layout", "call"] (spRdSec K C)) (Drelation_shape : Kn P w K mg base 7 "relation_shape" ["state", "name"] (spRelSh K C)) (Dstructure_shape : Kn P w K mg base 8 "structure_shape" ["state", "name"] (spStrSh K C)) :
    FnOk P w K mg base CX0 15 f fd ["state", "layout", "call"] (spLRead K C) := by
  refine F0.ok sc_law_read (fun vs H Q E h => ?_) (fun cdv A outer s0 H vs Q E hr h => ?_)
  · obtain ⟨x, lay, c, ks, ss, l, R, F, S, L, W, y, rfl, _⟩ := h
    rfl
  · obtain ⟨x, lay, c, ks, ss, l, R, F, S, L, W, y, rfl, lv, lo, ca, clo, clv, q⟩ := h
    refine ⟨_, (pss_cons (ps_set (i := 3) sc_law_read.nd rfl (.inr rfl) pe_non)
      (pss_cons (ps_for PassesOwn.never rfl (pi_list (pe_kn D_law_ways hr (pa_cons (pv 0) (pa_cons (pv 1) (pa_cons (pv 2) pa_nil))))) (pg_name (i := 4) sc_law_read.nd rfl (.inl rfl)) (pss_one (ps_if (PW.pt (pw_or (pt_cmpR op_isN (pv 3) pe_non (nomark _)) (pw_or1 (pt_cmpR op_lt (pe_ix ix_tup (pv 4) pe_int (fun _ _ => rfl)) (pe_ix ix_tup (pv 3) pe_int (fun _ _ => rfl)) (nomark _))))) (pss_one (ps_set (i := 3) sc_law_read.nd rfl (.inr rfl) (pv 4))) pss_nil)))
      (pss_cons (ps_setLc (i := 5) (own := [("k", 11)]) (g := gName 11) (tt := tYes) rfl sc_law_read.nd rfl rfl (sw_true rfl rfl rfl (by decide +kernel)) (pi_range1 (by rfl) T0.range (pa_cons (pe_ix ix_tup (pv 3) pe_int (fun _ _ => rfl)) pa_nil)) (blkOk_by (own := [("k", 11)]) (N := N_law_read) (sc := defScope s_law_read) (by decide +kernel)) (fun _ _ _ _ _ => pg_name (i := 11) sc_law_read.nd rfl (Or.inl rfl)) (fun _ _ _ _ _ => pts_nil) (fun _ _ _ _ _ => (pe_tup (pa_cons (pe_ix (ix_tup_K (K := K) rfl) (pv 3) pe_int (fun _ _ => rfl)) (pa_cons (pe_op op_add (pe_ix (ix_tup_K (K := K) rfl) (pv 3) pe_int (fun _ _ => rfl)) (pv 11)) pa_nil)))))
      (pss_cons (ps_if (pt_cmpR (op_neD (hu64 hr)) (pe_kn Dread_sectors hr (pa_cons (pv 0) (pa_cons (pv 1) (pa_cons (pv 2) pa_nil)))) (pv 5) (nomark _)) (pss_one (ps_ret pe_non)) pss_nil)
      (pss_cons (ps_set (i := 6) sc_law_read.nd rfl (.inr rfl) pe_non)
      (pss_mid (ps_if (pt_cmpR op_eq (pe_ix ix_tup (pe_ix ix_tup (pv 3) pe_int (fun _ _ => rfl)) pe_int (fun _ _ => rfl)) pe_str (nomark _)) (pss_one (ps_set (i := 6) sc_law_read.nd rfl (.inr rfl) (pe_kn Drelation_shape hr (pa_cons (pv 0) (pa_cons (pe_ix ix_tup (pe_ix ix_tup (pv 3) pe_int (fun _ _ => rfl)) pe_int (fun _ _ => rfl)) pa_nil))))) (pss_one (ps_set (i := 6) sc_law_read.nd rfl (.inr rfl) (pe_kn Dstructure_shape hr (pa_cons (pv 0) (pa_cons (pe_ix ix_tup (pe_ix ix_tup (pv 3) pe_int (fun _ _ => rfl)) pe_int (fun _ _ => rfl)) pa_nil))))))
      (pss_cons (ps_set (i := 7) sc_law_read.nd rfl (.inl rfl) (pe_callB (call_sum_K rfl rfl) (by rfl) T0.sum (by decide +kernel) (pa_cons (pe_lc (own := [("place", 12), ("index", 13)]) (g := gTup K 2 (gCons (gName 12) (gCons (gName 13) gNil))) (tt := tYes) rfl sc_law_read.nd (pi_list (pv 5)) (blkOk_by (own := [("place", 12), ("index", 13)]) (N := N_law_read) (sc := defScope s_law_read) (by decide +kernel)) (fun _ _ _ _ _ => pg_tup rfl (pgs_cons (pg_name (i := 12) sc_law_read.nd rfl (Or.inl rfl)) (pgs_cons (pg_name (i := 13) sc_law_read.nd rfl (Or.inl rfl)) pgs_nil))) (fun _ _ _ _ _ => pts_nil) (fun _ _ _ _ _ => (pe_ix (ix_list_K (K := K) rfl) (pe_ix (ix_list_K (K := K) rfl) (pv 6) (pv 13) (fun _ _ => rfl)) pe_int (fun _ _ => rfl)))) pa_nil)))
      (pss_cons (ps_set (i := 8) sc_law_read.nd rfl (.inl rfl) (pe_lst pa_nil))
      (pss_cons (ps_for PassesOwn.never rfl (pi_list (pe_dget2 (hu_of hr) (pe_fld (pv 0) rfl) (pe_ix ix_tup (pv 2) pe_int (fun _ _ => rfl)) (pe_lst pa_nil) ⟨by rfl, by rfl, by rfl, by rfl⟩)) (pg_name (i := 9) sc_law_read.nd rfl (.inl rfl)) (pss_cons (ps_setLc (i := 10) (own := [("value", 14), ("due_value", 15)]) (g := gTup K 2 (gCons (gName 14) (gCons (gName 15) gNil))) rfl sc_law_read.nd rfl rfl (sw_true rfl rfl rfl (by decide +kernel)) (Zg.pi_zipG (K := K) rfl (by rfl) hzip (pa_cons (pv 9) (pa_cons (pe_ix ix_tup (pv 2) pe_int (fun _ _ => rfl)) pa_nil))) (blkOk_by (own := [("value", 14), ("due_value", 15)]) (N := N_law_read) (sc := defScope s_law_read) (by decide +kernel)) (fun _ _ _ _ _ => pg_tup rfl (pgs_cons (pg_name (i := 14) sc_law_read.nd rfl (Or.inl rfl)) (pgs_cons (pg_name (i := 15) sc_law_read.nd rfl (Or.inl rfl)) pgs_nil))) (fun _ _ _ _ _ => (pts_one (PW.pt (pw_and (pt_cmpR op_notN (pv 15) pe_non (nomark _)) (pw_and1 (pt_cmpR op_ne (pe_callB (cr_reprV) (by rfl) hrep (by decide +kernel) (pa_cons (pv 14) pa_nil)) (pe_callB (cr_reprV) (by rfl) hrep (by decide +kernel) (pa_cons (pv 15) pa_nil)) (nomark _))))))) (fun _ _ _ _ _ => (pv 14)))
      (pss_one (ps_if (pt_not (pt_truth (pv 10) (fun _ => rfl))) (pss_one (ps_expr (pe_bm PySem.F.plainAttrs_list PySem.F.slot_list_append PySem.F.type_list_append mt_append (pv 8) (pa_cons (pv 9) pa_nil)))) pss_nil))))
      (pss_cons (ps_if (PW.pt (pw_or (pt_cmpR op_ne (pv 7) (pe_callB call_len_seq (by rfl) T0.len PySem.boot_len (pa_cons (pe_ix ix_tup (pv 3) pe_int (fun _ _ => rfl)) pa_nil)) (nomark _)) (pw_or1 (pt_cmpR op_gt (pe_callB call_len_seq (by rfl) T0.len PySem.boot_len (pa_cons (pe_lc (own := [("row", 9)]) (g := gName 9) rfl sc_law_read.nd (pi_list (pv 8)) (blkOk_by (own := [("row", 9)]) (N := N_law_read) (sc := defScope s_law_read) (by decide +kernel)) (fun _ _ _ _ _ => pg_name (i := 9) sc_law_read.nd rfl (Or.inl rfl)) (fun _ _ _ _ _ => (pts_one (pt_cmpR (op_notInD_K (K := K) rfl (hu65 hr)) (pv 9) (pe_ix (ix_tup_K (K := K) rfl) (pv 3) pe_int (fun _ _ => rfl)) (by rfl)))) (fun _ _ _ _ _ => (pv 9))) pa_nil)) pe_int (nomark _))))) (pss_one (ps_ret pe_non)) pss_nil)
      (pss_one (ps_ret (pv 5))))))))))))), ?_⟩
    obtain ⟨qp, hc1, hc2, po, l10⟩ := id ca
    obtain ⟨dr, df, ds, dl, Z, st⟩ := lv.st
    obtain ⟨dx, ob⟩ := st.ob
    have hR : (valG R l.r).isSome = true := (lv.rn l.r).mpr (clo.imp And.left And.left)
    obtain ⟨⟨qr, cR⟩, er⟩ := some_val hR
    obtain ⟨⟨cc, rfl, fc⟩, l4, r1, r40, ⟨qf, ef⟩, lr, sh', wid⟩ := lv.wv.rel _ _ _ er
    obtain ⟨lr50, lvr⟩ := lv.lv l.r hR
    have lpw : l.p.length = (W.cols l.r).length := by
      obtain ⟨b0, b1', b2', rfl⟩ := lv.eW
      rcases clo with ⟨e, e2⟩ | ⟨e, e2⟩
      · rw [e, lw_p, e2]; rfl
      · rw [e, lw_q, e2]; rfl
    have okc : okC R W l := ⟨hR, lpw⟩
    have lnR : R.length ≤ 300 := st.ln.1
    have lnS : S.length ≤ 300 := st.ln.2.2.1
    -- the ways, and the best of them
    refine ⟨_, rfl, _, rfl, _, rfl, x, lay, c, ks, ss, l, R, F, S, L, W, y, rfl, lv, lo, ca, clo, fun H1 p s1 np wa => ?_⟩
    obtain ⟨ts, ep, et, wt⟩ := wa
    refine ⟨p, rfl, ⟨_, SqL.of ep⟩, for_list (K := K) (a := p) (xs := ts.map fun t => V.ref t.1) (fun i σ G => ∃ (v3 : V) (y4 : Option V), G = H1 ∧ σ = [some (.ref x), some (.ref lay), some (.ref c), some v3, y4, none, none, none, none, none, none, none, none, none, none, none] ∧
        ((bestO ((ts.map (·.2)).take i) = none ∧ v3 = .non) ∨ ∃ t ∈ ts, bestO ((ts.map (·.2)).take i) = some t.2 ∧ v3 = .ref t.1))
      ⟨.non, none, rfl, rfl, .inl ⟨rfl, rfl⟩⟩ (fun i σ G _ hP => ?_) (fun i y σ G hy hP => ?_) (fun σ G hP => ?_)⟩
    · obtain ⟨_, _, rfl, _⟩ := hP
      exact SqL.of ep
    · obtain ⟨v3, y4, rfl, rfl, hb⟩ := hP
      rw [List.getElem?_map] at hy
      obtain ⟨t, eT, rfl⟩ := Option.map_eq_some_iff.mp hy
      have mt := List.mem_of_getElem? eT
      have e2 : (ts.map (·.2))[i]? = some t.2 := by rw [List.getElem?_map, eT]; rfl
      have bs : bestO ((ts.map (·.2)).take (i + 1)) = stepO (bestO ((ts.map (·.2)).take i)) t.2 := by rw [take_snoc' e2, bestO_snoc]
      rcases hb with ⟨b0, rfl⟩ | ⟨u, mu, b0, rfl⟩
      · rw [b0] at bs
        refine ⟨_, rfl, rfl, _, rfl, ite2 (fun _ => ?_) (fun z => absurd (decide_eq_true rfl) z)⟩
        refine ite2 (fun _ => ?_) (fun z => absurd rfl z)
        exact ⟨_, rfl, _, _, rfl, rfl, .inr ⟨t, mt, bs, rfl⟩⟩
      · rw [b0] at bs
        refine ⟨_, rfl, rfl, _, rfl, ite2 (fun z => by simp at z) (fun _ => ?_)⟩
        obtain ⟨t1, h1, g1, g2, g3, _⟩ := (wt t mt).ex
        obtain ⟨t2, h2, k1, k2, k3, _⟩ := (wt u mu).ex
        refine ⟨_, rfl, t.1, _, 0, .int ((pkn t.2.rs : Nat) : Int), rfl, rfl, g1, at_of (j := 0) rfl rfl, _, rfl, u.1, _, 0, .int ((pkn u.2.rs : Nat) : Int), rfl, rfl, k1, at_of (j := 0) rfl rfl, _, _, rfl, rfl, _, rfl, ?_⟩
        by_cases lt : pkn t.2.rs < pkn u.2.rs
        · refine ite2 (fun _ => ?_) (fun z => absurd (decide_eq_true (by omega)) z)
          exact ⟨_, rfl, _, _, rfl, rfl, .inr ⟨t, mt, by rw [bs, stepO_some, if_pos lt], rfl⟩⟩
        · refine ite2 (fun z => absurd (of_decide_eq_true z) (by omega)) (fun _ => ?_)
          exact ⟨_, _, rfl, rfl, .inr ⟨u, mu, by rw [bs, stepO_some, if_neg lt], rfl⟩⟩
    obtain ⟨v3, y4, rfl, rfl, hb⟩ := hP
    rw [List.length_map, List.take_of_length_le (by rw [List.length_map]; exact Nat.le_refl _), et, bestO_cons] at hb
    rcases hb with ⟨b0, _⟩ | ⟨t, mt, b0, rfl⟩
    · cases b0
    have eB : bestY (wyR W l) (waysS W l ss) = t.2 := Option.some.inj b0
    obtain ⟨tn, hh, g1, g2, g3, _⟩ := (wt t mt).ex
    -- what is known of the best way
    have hkk : ∀ s ∈ ss, W.srel s = l.r → bkc W s l < (W.sb s).toNat := fun s ms _ => by
      obtain ⟨⟨qs, cs0⟩, es⟩ := some_val (lo.mem s (lo.pm.mem_iff.mp ms))
      have si := lv.wv.str _ _ _ es
      obtain ⟨k0, k1⟩ := bkt_lt si l.p
      unfold bkc
      omega
    obtain ⟨be1, be2⟩ := best_eq ss (wyR W l) hkk (wyR_len W l)
    rw [eB] at be1 be2
    have eC : callS R W ss l = secW W t.2 := by
      unfold callS
      rw [if_pos okc]
      exact be1
    have bc := best_case eB
    have smR : Sml (W.rows l.r) := ⟨lr50, fun u mu => LV_row (lvr u mu) (by
      rw [wid u mu, ← lpw]
      exact (clo.symm).imp And.right And.right)⟩
    have bm : t.2.m ∈ NmL := by
      rcases bc with e | ⟨n, mn, _, _, e⟩
      · rw [e]
        rcases clo with ⟨z, _⟩ | ⟨z, _⟩
        · show Nm.rel l.r ∈ NmL
          rw [z]
          decide +kernel
        · show Nm.rel l.r ∈ NmL
          rw [z]
          decide +kernel
      · rw [e]
        show Nm.str n ∈ NmL
        have := (lv.sn n).mp (lo.mem n (lo.pm.mem_iff.mp mn))
        simp only [NS4, List.mem_cons, List.not_mem_nil, or_false] at this
        rcases this with rfl | rfl | rfl | rfl <;> decide +kernel
    have bsub : ∀ u ∈ t.2.rs, u ∈ W.rows l.r := fun u mu => by
      rcases bc with e | ⟨n, mn, e1, _, e⟩
      · rw [e] at mu
        exact mu
      · rw [e] at mu
        unfold wyS at mu
        rw [e1] at mu
        exact (List.mem_filter.mp mu).1
    have bsm : Sml t.2.rs := by
      rcases bc with e | ⟨n, mn, e1, _, e⟩
      · rw [e]
        exact smR
      · rw [e]
        unfold wyS
        rw [e1]
        exact smR.filter _
    have bmeet : ∀ u ∈ W.rows l.r, Meets l u.2 → u ∈ t.2.rs := fun u mu me => by
      rcases bc with e | ⟨n, mn, e1, e2, e⟩
      · rw [e]
        exact mu
      · rw [e]
        unfold wyS
        rw [e1]
        obtain ⟨⟨qs, cs0⟩, es⟩ := some_val (lo.mem n (lo.pm.mem_iff.mp mn))
        have si := lv.wv.str _ _ _ es
        obtain ⟨k0, k1⟩ := bkt_lt si l.p
        have := meets_vals si (by rw [e1]; exact wid u mu) (by rw [e1]; exact lpw) me e2
        refine List.mem_filter.mpr ⟨mu, decide_eq_true ?_⟩
        rw [← e1, this]
        unfold bkc
        omega
    obtain ⟨p8, sne, ssum⟩ := secS_ok bsm
    obtain ⟨kb, ekb⟩ : ∃ kb : Nat, (kb : Int) = (t.2.k : Int) * roomN W t.2.m ∧ ((t.2 = wyR W l ∧ kb = 0) ∨ ∃ n ∈ ss, W.srel n = l.r ∧ t.2 = wyS W n l ∧ kb = bkc W n l * 8) := by
      rcases bc with e | ⟨n, mn, e1, _, e⟩
      · refine ⟨0, ?_, .inl ⟨e, rfl⟩⟩
        rw [e]
        show ((0 : Nat) : Int) = ((0 : Nat) : Int) * _
        simp
      · refine ⟨bkc W n l * 8, ?_, .inr ⟨n, mn, e1, e, rfl⟩⟩
        rw [e]
        obtain ⟨b0', b1', b2', rfl⟩ := lv.eW
        show _ = ((bkc _ n l : Nat) : Int) * 8
        omega
    obtain ⟨ekb, kcase⟩ := ekb
    -- the sectors that are due
    refine ⟨_, rfl, t.1, _, 0, .int ((pkn t.2.rs : Nat) : Int), rfl, rfl, g1, at_of (j := 0) rfl rfl, _, rfl, by omega, by omega, fun D nD => ?_⟩
    refine lc_newT walk_range (fun j => [.ref tn, .int ((t.2.k : Int) * roomN W t.2.m + (0 + (j : Int)))]) (Nat.lt_of_le_of_lt (m := 8) (by omega) (by decide)) nD (fun _ _ => trivial) (fun i v G G' N hi sg yy fin => ?_) fun H2 ud s12 eD lu gu => ?_
    · obtain ⟨rfl, rfl⟩ := yy
      refine ⟨rfl, _, rfl, t.1, _, 1, .ref tn, rfl, rfl, sqt_same sg g1, at_of (j := 1) rfl rfl, _, rfl, t.1, _, 2, .int ((t.2.k : Int) * roomN W t.2.m), rfl, rfl, sqt_same sg g1, at_of (j := 2) rfl rfl, _, rfl, _, _, rfl, rfl, sz 2, fun u nu => fin _ u (Same.new nu) upd_same⟩
    have sH2 := s1.trans s12
    have secD : Sec K H2 D (secW W t.2) := by
      refine Sec.of (SqL.of eD) (by rw [lu, be2]; rfl) fun i a b ea eb => ?_
      unfold secW bsec at eb
      rw [List.getElem?_map] at eb
      obtain ⟨j, ej, rfl⟩ := Option.map_eq_some_iff.mp eb
      have hj := (List.getElem?_eq_some_iff.mp ej)
      obtain ⟨hj1, hj2⟩ := hj
      rw [List.getElem_range] at hj2
      subst hj2
      refine ⟨tn, ?_, g2.same s12⟩
      have := gu i a ea
      rw [Int.zero_add] at this
      exact SqT.of this
    -- what the program reads
    refine ⟨_, rfl, _, rfl, _, rfl, x, lay, c, ks, ss, l, R, S, F, W, rfl, lv.wv.same sH2, lo.same sH2, ca.same sH2, by omega, by omega, fun H3 pr s23 npr sec3 => ?_⟩
    have eS : srtB (readS R W ss [l]) = secW W t.2 := by
      unfold readS
      rw [List.flatMap_cons, List.flatMap_nil, List.append_nil, eC]
      unfold secW
      rw [ddq_same (bsec_nodup _ _ _), srt_bsec]
    rw [eS] at sec3
    have nmS : ∀ b ∈ secW W t.2, b.1 ∈ NmL := fun b mb => by
      obtain ⟨j, _, rfl⟩ := List.mem_map.mp mb
      exact bm
    have secD3 := secD.same s23
    have sH3 := sH2.trans s23
    refine ⟨_, rfl, _, _, sec3.dp, secD3.dp, secs_shaped nmS, secs_shaped nmS, _, rfl, ?_⟩
    rw [secs_eqv]
    refine ite2 (fun z => by cases z) fun _ => ?_
    have s13 := s12.trans s23
    have g13 := sqt_same s13 g1
    have g23 := g2.same s13
    have gu3 : ∀ (i : Nat) u, ud[i]? = some u → H3 u = some (.tup [.ref tn, .int ((t.2.k : Int) * roomN W t.2.m + (0 + (i : Int)))]) := fun i u e => s23 _ _ (gu i u e)
    have eD3 := s23 _ _ eD
    refine ⟨fun σ G => ∃ (p6 : Addr) (us : List (Addr × List Int)), σ = [some (.ref x), some (.ref lay), some (.ref c), some (.ref t.1), y4, some (.ref D), some (.ref p6), none, none, none, none, none, none, none, none, none] ∧ Same H3 G ∧ G p6 = some (.lst (refs us)) ∧ Parts G us ∧ Part (us.map (·.2)) kb t.2.rs, ?_, ?_⟩
    · refine ⟨_, rfl, t.1, _, 1, .ref tn, rfl, rfl, g13, at_of (j := 1) rfl rfl, tn, _, 0, .str (nmW t.2.m), rfl, rfl, g23, at_of (j := 0) rfl rfl, rfl, _, rfl, ?_⟩
      have lv3 := lv.same sH3
      rcases kcase with ⟨e, ek0⟩ | ⟨n, mn, e1, e, ek0⟩
      · rw [e] at g23
        refine ite2 (fun _ => ?_) (fun z => absurd (decide_eq_true (by rw [e]; rfl)) z)
        refine ⟨_, rfl, _, rfl, t.1, _, 1, .ref tn, rfl, rfl, g13, at_of (j := 1) rfl rfl, tn, _, 1, .str l.r, rfl, rfl, g23, at_of (j := 1) rfl rfl, x, l.r, R, S, F, qr, qf, cc, ((W.room l.r : Nat) : Int), W.rows l.r, rfl, lv3.wv.sv, er, ef, by omega, by omega, lr, fun z G s3G res => ?_⟩
        obtain ⟨ss', e5, part⟩ := rel_part smR
        have rm : ((W.room l.r : Nat) : Int).toNat = 20 := by
          obtain ⟨b0', b1', b2', rfl⟩ := lv.eW
          rfl
        rw [rm, e5] at res
        obtain ⟨p6, us, rfl, np6, e6, eus, pt6, _⟩ := res
        refine ⟨p6, us, rfl, s3G, e6, pt6, ?_⟩
        rw [eus, ek0, e]
        exact part
      · rw [e] at g23
        refine ite2 (fun z => absurd (V.str.inj (of_decide_eq_true z)) (by rw [e]; exact nsr)) (fun _ => ?_)
        obtain ⟨⟨qs, cs0⟩, es⟩ := some_val (lo.mem n (lo.pm.mem_iff.mp mn))
        have si := lv3.wv.str _ _ _ es
        have hb := hkk n mn e1
        refine ⟨_, rfl, _, rfl, t.1, _, 1, .ref tn, rfl, rfl, g13, at_of (j := 1) rfl rfl, tn, _, 1, .str n, rfl, rfl, g23, at_of (j := 1) rfl rfl, x, n, W.srel n, R, S, F, W.scs n, W.cols (W.srel n), W.sb n, W.ss n, qf, W.rows l.r, rfl, lv3.wv.sv, si, by rw [e1]; exact ef, lr, by rw [e1]; exact wid, fun z G s3G res => ?_⟩
        obtain ⟨ss', e5, part⟩ := str_part (cs := W.scs n) (w := W.cols (W.srel n)) (b := W.sb n) smR
        have rm : W.ss n = 8 := by
          obtain ⟨b0', b1', b2', rfl⟩ := lv.eW
          rfl
        rw [rm, e5] at res
        obtain ⟨p6, us, rfl, np6, e6, eus, pt6, _⟩ := res
        refine ⟨p6, us, rfl, s3G, e6, pt6, ?_⟩
        rw [eus, ek0, e]
        have := part _ hb
        unfold wyS
        rw [e1]
        rw [e1] at this
        exact this
    · rintro σ G ⟨p6, us, rfl, s3G, e6, pt6, part⟩
      have sHG := sH3.trans s3G
      have lenS : (secS t.2.rs).length = pkn t.2.rs := secS_len _
      -- the count
      refine ⟨_, rfl, D, rfl, ⟨_, SqL.of (s3G _ _ eD3)⟩, fun D2 nD2 => lc_mk (walk_list (K := K) (a := D) (xs := ud.map V.ref)) (fun j => ((secS t.2.rs).map fun s => V.int (hd s)).getD j .non) (by rw [List.length_map, lu]; exact Nat.lt_of_le_of_lt (m := 8) (by omega) (by decide)) nD2 (fun G1 s => s.seq (SqL.of (s3G _ _ eD3))) (fun j v G1 G1' N hj sg yy fin => ?_) fun G2 sG2 eD2 => ?_⟩
      · obtain ⟨rfl, ev⟩ := yy
        rw [List.getElem?_map] at ev
        obtain ⟨u, eu, rfl⟩ := Option.map_eq_some_iff.mp ev
        have hj' : j < pkn t.2.rs := by
          have := (List.getElem?_eq_some_iff.mp eu).1
          omega
        have pa := part.at_ j hj'
        have sj : (secS t.2.rs)[j]? = some ((secS t.2.rs)[j]'(by omega)) := List.getElem?_eq_getElem (by omega)
        rw [sj, List.getElem?_map] at pa
        obtain ⟨v, ev2, ev3⟩ := Option.map_eq_some_iff.mp pa
        have ne := sne _ (List.getElem_mem (by omega : j < (secS t.2.rs).length))
        rw [← ev3] at ne
        have hv := (pt6 v (List.mem_of_getElem? ev2))
        have h0 : v.2[0]? = some (hd v.2) := by
          cases z : v.2 with
          | nil => exact absurd z ne
          | cons a r => rfl
        have fin' := fin _ (Same.refl _)
        have ey : ((secS t.2.rs).map fun s => V.int (hd s)).getD j .non = V.int (hd v.2) := by
          rw [List.getD_eq_getElem?_getD, List.getElem?_map, sj, ← ev3]
          rfl
        rw [ey] at fin'
        refine ⟨u, _, rfl, SqT.of (sg _ _ (s3G _ _ (gu3 j u eu))), rfl, _, _, rfl, _, _, rfl, rfl, rfl, _, rfl, _, rfl, p6, _, _, .ref v.1, rfl, rfl, SqL.of (sg _ _ e6), at_of (j := kb + j) (by omega) (by unfold refs; rw [List.getElem?_map, ev2]; rfl), v.1, _, 0, .int (hd v.2), rfl, rfl, SqL.of (sg _ _ hv), at_of (j := 0) rfl (by rw [List.getElem?_map, h0]; rfl), fin'⟩
      rw [List.length_map, lu] at eD2
      have eD2' : G2 D2 = some (.lst (((secS t.2.rs).map hd).map V.int)) := by
        rw [eD2]
        have := map_get (fun s => V.int (hd s)) (secS t.2.rs) V.non
        have l2 : ((pkn t.2.rs : Nat) : Int).toNat = (secS t.2.rs).length := by omega
        rw [l2, this, List.map_map]
        rfl
      refine ⟨D2, _, rfl, SqL.of eD2', ?_⟩
      rw [ssum]
      have sHG2 := sHG.trans sG2
      -- the rows that meet the call
      refine ⟨sz 0, fun pm npm => ?_⟩
      have sm := Same.new (o := .lst []) npm
      have em := upd_same (H := G2) (a := pm) (o := .lst [])
      have sHm := sHG2.trans sm
      have npm0 : H pm = none := sHG2.free npm
      generalize (upd G2 pm (.lst [])) = G3 at *
      have hc1m := sqt_same sHm hc1
      refine ⟨_, rfl, x, C, dx, _, _, rfl, sHm _ _ ob, X.cl, X.nF, flds_f _ _ _ _, df, rfl, .inl ⟨_, .inl (st.same sHm).f⟩, _, rfl, c, _, 0, .str l.r, rfl, rfl, hc1m, at_of (j := 0) rfl rfl, sz 0, fun o no => ?_⟩
      have so := Same.new (o := .lst []) no
      have eo := so _ _ em
      have sHo := sHm.trans so
      have s3o := (s3G.trans sG2).trans (sm.trans so)
      generalize (upd G3 o (.lst [])) = G4 at *
      refine ⟨some (.ref qf), dgetF (.inl (st.same sHo).f) ef, ?_⟩
      have hqf : ∀ {G : Hp}, Same H G → G qf = some (.lst (rrefs (W.rows l.r))) := fun s => ((st.same s).ft _ (valG_mem ef)).1
      have hro : ∀ {G : Hp}, Same H G → RowsOk K G (W.rows l.r) := fun s => ((st.same s).ft _ (valG_mem ef)).2.1
      have lrr : (rrefs (W.rows l.r)).length = (W.rows l.r).length := List.length_map _
      -- what stays from H3 on, but for the list of rows
      have pmH3 : H3 pm = none := ((s3G.trans sG2).free npm)
      refine ⟨qf, rfl, ⟨_, SqL.of (hqf sHo)⟩, for_list (K := K) (a := qf) (xs := rrefs (W.rows l.r)) (fun i σ G5 => ∃ (y9 y10 y11 y12 y13 y14 y15 : Option V) (ms : Rw), σ = [some (.ref x), some (.ref lay), some (.ref c), some (.ref t.1), y4, some (.ref D), some (.ref p6), some (.int (t.2.rs.length : Int)), some (.ref pm), y9, y10, y11, y12, y13, y14, y15] ∧
          Same H3 G5 ∧ G5 pm = some (.lst (rrefs ms)) ∧ (∀ u ∈ ms, u ∈ W.rows l.r ∧ Meets l u.2) ∧ ms.length ≤ i) ⟨none, none, none, none, none, none, none, [], rfl, s3o, eo, (fun u m => nomatch m), Nat.le_refl _⟩ (fun i σ G5 _ hP => ?_) (fun i v σ G5 hy hP => ?_) (fun σ G5 hP => ?_)⟩
      · obtain ⟨_, _, _, _, _, _, _, _, _, s5, _⟩ := hP
        exact SqL.of (hqf (sH3.trans s5))
      · obtain ⟨y9, y10, y11, y12, y13, y14, y15, ms, rfl, s5, e5, hms, lms⟩ := hP
        obtain ⟨u, eu, rfl⟩ := rrefs_get hy
        have mu := List.mem_of_getElem? eu
        have il : i < (W.rows l.r).length := (List.getElem?_eq_some_iff.mp eu).1
        have sH5 := sH3.trans s5
        obtain ⟨htt, stt, ltt⟩ := hro sH5 u mu
        have hc15 := sqt_same sH5 hc1
        have hc25 := sqt_same sH5 hc2
        have lvu := lvr u mu
        refine ⟨_, rfl, _, rfl, c, _, 1, .ref qp, rfl, rfl, hc15, at_of (j := 1) rfl rfl, true, true, u.1, qp, u.2, l.p, rfl, htt, hc25, fun Df nDf => lc_fl (Zg.walkG (K := K) (t := true) (u := true) (a := u.1) (b := qp) (xs := u.2) (ys := l.p) rfl) (fun j => mism u.2 l.p j) (fun j => u.2.getD j .non) (Nat.lt_of_le_of_lt (m := 10) (by have := Nat.min_le_right u.2.length l.p.length; omega) (by decide)) nDf (fun G6 s => ⟨sqt_same s htt, sqt_same s hc25⟩) (fun j z G6 G6' N M hj sg yy fin fin2 => ?_) fun G6 s6 eDf => ?_⟩
        · obtain ⟨T, a, d, rfl, nT, rfl, ea, ed⟩ := yy
          have sT := Same.new (o := .tup [a, d]) nT
          have ma := lvu a (List.mem_of_getElem? ea)
          have md := clv d (List.mem_of_getElem? ed)
          have ea : u.2[j]? = some a := ea
          have ed : l.p[j]? = some d := ed
          have em' : mism u.2 l.p j = decide (d ≠ .non ∧ a ≠ d) := by
            unfold mism
            rw [ea, ed]
          rw [em'] at fin fin2
          have ey : u.2.getD j .non = a := by rw [List.getD_eq_getElem?_getD, ea]; rfl
          rw [ey] at fin
          refine ⟨T, _, rfl, SqT.of upd_same, rfl, _, _, rfl, _, _, rfl, rfl, rfl, ?_⟩
          rcases md with rfl | md
          · refine ⟨_, rfl, rfl, _, rfl, ite2 (fun z => by simp at z) fun _ => ?_⟩
            refine ite2 (fun z => by cases z) fun _ => ?_
            exact fin2 (decide_eq_false fun z => z.1 rfl) _ sT
          · have dn : d ≠ .non := fun z => by rw [z] at md; exact absurd md (by decide +kernel)
            refine ⟨_, rfl, rfl, _, rfl, ite2 (fun _ => ?_) fun z => absurd (by rw [decide_eq_false dn]; rfl) z⟩
            refine ⟨_, rfl, a, rfl, ma, _, rfl, d, rfl, md, rfl, _, rfl, ?_⟩
            by_cases e : a = d
            · refine ite2 (fun z => ?_) fun _ => fin2 (decide_eq_false fun z => z.2 e) _ sT
              rw [e] at z
              simp at z
            · refine ite2 (fun _ => ⟨_, rfl, fin (decide_eq_true ⟨dn, e⟩) _ sT⟩) fun z => absurd ?_ z
              have : ¬ (V.str (reprT a) = V.str (reprT d)) := fun z => e (reprT_inj a ma d md (V.str.inj z))
              rw [decide_eq_false this]
              rfl
        have s56 := s5.trans s6
        have e6 := s6 _ _ e5
        refine ⟨_, rfl, _, .inl ⟨_, SqL.of eDf, rfl⟩, ?_⟩
        cases ef0 : ((List.range (min u.2.length l.p.length)).filter fun j => mism u.2 l.p j) with
        | cons a r =>
          refine ite2 (fun z => by simp at z) fun _ => ?_
          exact ⟨_, _, _, _, _, _, _, ms, rfl, s56, e6, hms, by omega⟩
        | nil =>
          refine ite2 (fun _ => ?_) fun z => absurd rfl z
          have me : Meets l u.2 := mism_none fun j hj => by
            by_cases z : mism u.2 l.p j = true
            · have := List.mem_filter.mpr ⟨List.mem_range.mpr hj, z⟩
              rw [ef0] at this
              nomatch this
            · exact Bool.eq_false_iff.mpr z
          refine ⟨_, rfl, .inl ⟨rfl, ⟨_, SqL.of e6⟩⟩, _, rfl, pm, _, _, rfl, rfl, e6, by unfold rrefs; rw [List.length_map]; exact Nat.lt_of_le_of_lt lms (Nat.lt_of_lt_of_le (show i < 100 by omega) (by decide)), ?_⟩
          refine ⟨_, _, _, _, _, _, _, ms ++ [u], rfl, Same.over s56 pmH3, ?_, fun v m => ?_, by rw [List.length_append, List.length_singleton]; omega⟩
          · rw [upd_same]
            unfold rrefs
            rw [List.map_append]
            rfl
          · rcases List.mem_append.mp m with m | m
            · exact hms v m
            · obtain rfl : v = u := by simpa using m
              exact ⟨mu, me⟩
      · obtain ⟨y9, y10, y11, y12, y13, y14, y15, ms, rfl, s5, e5, hms, lms⟩ := hP
        have sH5 := sH3.trans s5
        have g15 := sqt_same (s13.trans s5) g1
        have g35 := (s13.trans s5).seq g3
        have lrb : (rrefs t.2.rs).length = t.2.rs.length := List.length_map _
        refine ⟨_, rfl, _, rfl, t.1, _, 3, .ref hh, rfl, rfl, g15, at_of (j := 3) rfl rfl, hh, _, rfl, .inl g35, rfl, _, rfl, ?_⟩
        rw [lrb]
        refine ite2 (fun z => by simp at z) fun _ => ?_
        have lms' : (rrefs ms).length = ms.length := List.length_map _
        refine ⟨_, rfl, pm, rfl, ⟨_, SqL.of e5⟩, fun D9 nD9 => lc_fl (walk_list (K := K) (a := pm) (xs := rrefs ms)) (fun _ => false) (fun _ => .non) (by rw [lms']; exact Nat.lt_of_le_of_lt lms (by rw [lrr]; exact Nat.lt_of_le_of_lt lr50 (by decide))) nD9 (fun G6 s => s.seq (SqL.of e5)) (fun j v G6 G6' N M hj sg yy fin fin2 => ?_) fun G6 s6 eD9 => ?_⟩
        · obtain ⟨rfl, ev⟩ := yy
          obtain ⟨u, eu, rfl⟩ := rrefs_get ev
          obtain ⟨mu, me⟩ := hms u (List.mem_of_getElem? eu)
          have mb := bmeet u mu me
          have sH6 := sH5.trans sg
          have dpu := rwD_dpL (hro sH6 u mu).1 (lvr u mu)
          have dpr := rows_dp (sg.seq g35) (fun v m => (hro sH6 v (bsub v m)).1) (fun v m => lvr v (bsub v m))
          refine ⟨rfl, _, rfl, _, rfl, t.1, _, 3, .ref hh, rfl, rfl, sqt_same sg g15, at_of (j := 3) rfl rfl, _, _, dpu, dpr, rwD_shaped (lvr u mu), rows_shaped (fun v m => lvr v (bsub v m)), _, rfl, ?_⟩
          rw [rows_any mb]
          exact ite2 (fun z => by cases z) fun _ => fin2 rfl _ (Same.refl _)
        · have e0 : ((List.range (rrefs ms).length).filter (fun _ => false)).map (fun _ => V.non) = [] := by simp
          rw [e0] at eD9
          refine ⟨D9, _, rfl, .inl (SqL.of eD9), _, _, rfl, rfl, _, rfl, ite2 (fun z => by simp at z) fun _ => ?_⟩
          have s36 := s5.trans s6
          refine ⟨_, rfl, q _ D (sH5.trans s6) ?_⟩
          rw [eC]
          exact secD3.same s36
end
end K1
/-! a def that is called by the caller of the claim alone: nothing is being shown around it -/
namespace Ow
open PySem PySem.Spec PyProof.Rows L2
theorem caller_guards (env : Env) : (callerA.deeper env).guards = some [] := rfl
def TopOk (P : Program) (w : World) (K : PySem.W.Frag) (mg : Str → Option Value) (base : Heap) (fa : Addr) (fd : FuncData) (ps : List Str) (sp : Sp) : Prop :=
  ∀ (t : Shared) (H : Hp) (ar : Args) (us : List Value) (vs : List V) (Q : VK) (E : XK), Env0 P w K mg base callerA [] t H → BindsTo t fd ar (ps.zip us) → Vals vs us → sp vs H Q E →
    codeAny (model P w) callerA (.call (.ref fa) ar) (CR CX0 [] P w H t Q E) t
section
variable {P : Program} {w : World} {K : PySem.W.Frag} {mg : Str → Option Value} {base : Heap}
theorem top_def {x qual : Str} {st : Stmt} {fa : Addr} {fd : FuncData} {N ps : List Str} {k : Nat} {sp : Sp} (F : Fun K x qual st fa fd) (S : FnScope N ps (defScope st)) (room : Room (k + 1) callerA) (len : ∀ vs H Q E, sp vs H Q E → vs.length = ps.length)
    (body : ∀ (cdv : Value) (t : Shared) (H : Hp) (vs : List V) (Q : VK) (E : XK), Room k (callerA.deeper (envOfC qual (defScope st) t.heap.objs.size fa cdv)) → sp vs H Q E →
      ∃ τ, PSs (cxOf CX0 P w K mg base N qual (defScope st) fa cdv callerA [] t H E).nox (defBody st) τ ∧ τ { nx := fun _ H' => Q .non H', rt := Q } (start N vs) H) : TopOk P w K mg base fa fd ps sp := by
  obtain ⟨oc, od, kV, doc, pm, an, cdv, ct, osl, rfl, lk, hcd⟩ := F.ex
  intro t H ar us vs Q E e0 hb rv hsp
  have kin : K.In t.heap := e0.mod.kin.keeps fun p ob z => (e0.bs p ob z).1
  have nolim : t.heap.NoLimit := e0.mod.nolimit.keeps fun p ob z => (e0.bs p ob z).1
  obtain ⟨τ, hτ, hq⟩ := body cdv t H vs Q E (room.deeper _) hsp
  have hτ' := hτ.nox
  have places : ∀ y ∈ ps.zip us, (defScope st).names.lookup y.1 = some .local ∨ ((defScope st).names.lookup y.1 = some .cell ∧ ((cellsFrom (t.heap.objs.size + 1) (defScope st).names []).lookup y.1).isSome = true) := by
    intro y hy
    have m : y.1 ∈ ps := (List.of_mem_zip (show (y.1, y.2) ∈ ps.zip us from hy)).1
    exact (S.par _ m).imp id fun z => ⟨z, PySem.W.cellsFrom_some _ _ _ (.inl z)⟩
  apply codeAny_call_function room.depth (kin _ _ lk) rfl S.co S.gen rfl (PySem.W.codeRec_of kin hcd)
  apply hb
  apply wpAny_newFunctionEnv_cells S.kind places
  intro env he t1 inC
  cases he
  refine ⟨nolim.keeps inC.toInCall.keep, codeAny_func ?_⟩
  have J0 := inv_start (CX := CX0) (mg := mg) (E := E) S room.hd e0 (len _ _ _ _ hsp) rv inC
  refine wpAny_mono (hτ'.run [] t1 (start N vs) H _ J0 hq) ?_ (fun _ _ z => z)
  have done : ∀ {σ2 : L2.St} {H2 : Hp} {v : V} {u : Value} {t2 : Shared}, Inv (cxOf CX0 P w K mg base N qual (defScope st) fa cdv callerA [] t H E) [] σ2 H2 t2 → RelV v u → Q v H2 → CE [] P w H t Q u t2 :=
    fun J rvu qv => ⟨_, _, J.os, J.bare, J.base, J.hok, rvu, qv⟩
  intro fl t2 z
  match fl, z with
  | .ret u, ⟨_, _, _, J, rvu, qv⟩ => exact done J rvu qv
  | .next, ⟨_, _, J, qv⟩ => exact done (v := .non) (u := .none) J rfl qv
  | .brk, ⟨_, _, _, no⟩ => exact no.elim
  | .cont, ⟨_, _, _, no⟩ => exact no.elim
/-- the numbers of a script, read -/
theorem script_vals : ∀ {vs : List Value} {ns : List Int}, IntsAre vs ns → Vals (ns.map V.int) vs ∧ vs.length = ns.length := fun h => ⟨vals_ints h, h.length⟩
theorem top_call {fa a : Addr} {fd : FuncData} {x : Str} {sp : Sp} {t : Shared} {mb : Str → Option Value} {vs : List Value} {ns : List Int}
    (kin : K.In t.heap) (gl : t.heap.Ns mainGlobals mg) (bn : t.heap.Ns builtinsNs mb) (bnb : ∀ y : Str, y ≠ "__name__" → mb y = bootBuiltins y) (nolim : t.heap.NoLimit) (noG : t.gens = #[])
    (ob : t.heap.get? a = some { cls := .type "list", data := .seq vs.toArray }) (num : IntsAre vs ns) (few : ns.length ≤ sizeLine)
    (F : ∀ b : Heap, K.In b → b.Ns mainGlobals mg → TopOk P w K mg b fa fd [x] sp) (bind : ∀ (t : Shared) (u : Value), BindsTo t fd ⟨[u], []⟩ [(x, u)])
    (hsp : ∀ H : Hp, Only H → SqL K H a (ns.map V.int) → sp [.ref a] H (fun v _ => v = .bl true) fun _ _ _ => False) :
    codeAny (model P w) callerA (.call (.ref fa) ⟨[.ref a], []⟩) (fun r t' => r = .ok (.ret (.bool true)) ∧ OldK t.heap t'.heap ∧ t'.os = t.os ∧ AllBare t'.gens) t := by
  obtain ⟨rv, len⟩ := script_vals num
  let own : HO := .frz { cls := .type "list", data := .seq vs.toArray } (.lst (ns.map V.int))
  let H : Hp := fun b => if b = a ∧ K.lookup a = none then some own else none
  have Hat : ∀ {b : Addr} {u : HO}, H b = some u → b = a ∧ K.lookup a = none ∧ u = own := fun {b u} z => by
    by_cases c : b = a ∧ K.lookup a = none
    · have z' : (if b = a ∧ K.lookup a = none then some own else none) = some u := z
      rw [if_pos c] at z'
      exact ⟨c.1, c.2, (Option.some.inj z').symm⟩
    · have z' : (if b = a ∧ K.lookup a = none then some own else none) = some u := z
      rw [if_neg c] at z'
      cases z'
  have only : Only H := fun b => by
    cases z : H b with
    | none => exact .inl rfl
    | some u => exact .inr ⟨_, _, by rw [(Hat z).2.2]⟩
  have seq : SqL K H a (ns.map V.int) := by
    cases z : K.lookup a with
    | none => exact .inl (.inr ⟨_, if_pos ⟨rfl, z⟩⟩)
    | some o2 =>
      have z2 := kin _ _ z
      rw [ob] at z2
      cases z2
      exact .inr ⟨_, vs.toArray, _, z, rfl, rfl, rfl, by rw [List.size_toArray, len]; exact few, by simpa using rv⟩
  have good : HOk P w H t.heap := fun b u z => by
    obtain ⟨e1, _, e3⟩ := Hat z
    subst e1 e3
    exact ⟨ob, by rw [List.length_map]; exact few, vs, _, rv, ob⟩
  -- what is no list is not hidden
  have seen : ∀ {b : Addr} {o2 : Obj}, t.heap.get? b = some o2 → H b = none → (hidT t.heap H).get? b = some o2 := fun e z => hidT_get e z
  have notA : ∀ {b : Addr} {o2 : Obj} {es : Array DictEntry} {ep : Nat}, t.heap.get? b = some o2 → o2.data = .dict es ep → H b = none := fun {b o2 es ep} e d => by
    cases z : H b with
    | none => rfl
    | some u =>
      obtain ⟨e1, _, _⟩ := Hat z
      subst e1
      rw [ob] at e
      cases e
      cases d
  have nsOf : ∀ {b : Addr} {m : Str → Option Value}, t.heap.Ns b m → (hidT t.heap H).Ns b m := fun {b m} n => by
    obtain ⟨o2, es, ep, e, d, r⟩ := n
    exact ⟨o2, es, ep, seen e (notA e d), d, r⟩
  have kinB : K.In (hidT t.heap H) := fun b o2 e => by
    refine seen (kin b o2 e) ?_
    cases z : H b with
    | none => rfl
    | some u =>
      obtain ⟨e1, e2, _⟩ := Hat z
      subst e1
      rw [e2] at e
      cases e
  have modB : Mod K mg (hidT t.heap H) := by
    refine ⟨kinB, nsOf gl, ⟨mb, nsOf bn, bnb⟩, ?_⟩
    obtain ⟨mc, h1, h2⟩ := nolim
    exact ⟨mc, nsOf h1, h2⟩
  have noOuter : ∀ b : Addr, b ∉ ([] : List Addr) := fun b z => by cases z
  have env : Env0 P w K mg (hidT t.heap H) callerA [] t H := ⟨rfl, modB, fun b o2 e => of_hidT e, Nat.le_of_eq (hidT_size _ _), trivial, fun b z => absurd z (noOuter b), good, .of_eq noG⟩
  refine codeAny_mono (F _ kinB (nsOf gl) t H ⟨[.ref a], []⟩ [.ref a] [.ref a] _ _ env (bind t (.ref a)) (.cons rfl .nil) (hsp H only seq)) ?_
  intro r t' z
  match r, z with
  | .ok (.ret u), ⟨v, H', os, bare, un, good', ru, q⟩ =>
    have q' : v = .bl true := q
    subst q'
    have ru' : u = Value.bool true := ru
    subst ru'
    refine ⟨rfl, OldK.of_keep fun b o2 e => ?_, os, bare⟩
    cases z : H b with
    | none => exact un.keep b o2 e z (noOuter b) (by simp)
    | some x2 =>
      have fz : x2 = own := (Hat z).2.2
      subst fz
      have z2 := un.frzs b _ _ z
      have g1 := (good b _ z).1
      have g2 := (good' b _ z2).1
      rw [e] at g1
      cases g1
      exact g2
end
theorem top_walk {l : PySem.W.OpenLaw} {n : Nat} {q : Program} {loose : List Str} {XP : (Str → Option Value) → Heap → Prop} {YP : World → Heap → Prop} {d : DefRec} {K : Params → PySem.W.Frag} {sp : World → Sp} {x : Str}
    (most : l.most = some n) (few : n ≤ sizeLine) (plain : d.params.defaults = [])
    (kin : ∀ (w : World) (h : Heap), YP w h → (K w.params).In h)
    (F : ∀ (w : World) (mg : Str → Option Value) (fa : Addr) (h : Heap), (K w.params).In h → h.Ns mainGlobals mg → mg d.name = some (.ref fa) →
      ∃ fd : FuncData, (∀ (t : Shared) (u : Value), BindsTo t fd ⟨[u], []⟩ [(x, u)]) ∧ ∀ b : Heap, (K w.params).In b → b.Ns mainGlobals mg → TopOk l.prog w (K w.params) mg b fa fd [x] (sp w))
    (hsp : ∀ (w : World) (H : Hp) (a : Addr) (ns : List Int), ns.length ≤ n → Only H → SqL (K w.params) H a (ns.map V.int) → sp w [.ref a] H (fun v _ => v = .bl true) fun _ _ _ => False) :
    PySem.W.WalkO q loose XP YP l.row.toRowW d [] (fun f vs => PySem.call f vs) := by
  refine Att.attach_call most plain fun w t0 t mg mb fa o pm cd doc a vs ns G Y ho hd hcd gl obj num len noG => ?_
  obtain ⟨fd, bind, top⟩ := F w mg fa _ (kin w _ Y) G.T.g gl
  exact top_call (kin w _ Y) G.T.g G.T.b G.T.builtins G.T.nolimit noG obj num (Nat.le_trans len few) top bind fun H only seq => hsp w H a ns len only seq
end Ow
/-! repr of data, where nothing is being shown -/
namespace Ow
open PySem PySem.Spec PyProof.Rows L2
theorem noDict_of {d : PyData} {as : List Addr} (h : d.hasDict = false) : d.hasDict = true → sysModules ∉ as := fun z => by rw [h] at z; cases z
theorem call_reprD {X : Cx} {K : PySem.W.Frag} (e : X.K = K) (hg : X.A.guards = some []) (hu : X.A.units + 70 < cLine) : CallR X (.builtin "repr") (fun xs H Q => ∃ (a : Addr) (d : PyData), xs = [.ref a] ∧ Dp K H (.ref a) d ∧ d.showable = true ∧ d.hasDict = false ∧ d.depth ≤ 60 ∧ d.shown.length ≤ sizeLine ∧ Q (.str d.shown) H) := by
  subst e
  intro pins s σ H xs us Q I r h
  obtain ⟨a, d, rfl, hd, hs, nd, dp, hz, q⟩ := h
  cases r with
  | cons r1 r2 =>
    cases r2
    obtain ⟨as, rd⟩ := Dp.reads I d _ _ hd r1
    cases r1
    exact repr_of_reads' rd hs (noDict_of nd) hg (by omega) (fun b o e => e) (fun h' u tk keep => ⟨.str _, H, I.kept (t' := tk) keep, ⟨u, rfl⟩, q⟩) hz
end Ow
namespace K1
open PySem PySem.Spec PyProof.Rows L2 Ow Tlz
theorem hu70 {k : Nat} {A : Around} (hr : Room k A) : A.units + 70 < cLine := by have := hr.un; omega
theorem addAll_same {β : Type} [DecidableEq β] : ∀ (cs acc : List β), (∀ x ∈ cs, x ∈ acc) → cs.foldl addQ acc = acc
  | [], _, _ => rfl
  | c :: r, acc, h => by
    have e : addQ acc c = acc := if_pos (h c List.mem_cons_self)
    rw [List.foldl_cons, e]
    exact addAll_same r acc fun x m => h x (List.mem_cons_of_mem _ m)
theorem fold_flat {α β : Type} [DecidableEq β] (f : α → List β) : ∀ (cs : List α) (acc : List β), (cs.flatMap f).foldl addQ acc = cs.foldl (fun acc c => (f c).foldl addQ acc) acc
  | [], _ => rfl
  | c :: r, acc => by rw [List.flatMap_cons, List.foldl_append, fold_flat f r, List.foldl_cons]
theorem ddq_flat {α β : Type} [DecidableEq α] [DecidableEq β] (f : α → List β) (cs : List α) : ddq ((ddq cs).flatMap f) = ddq (cs.flatMap f) := by
  have key : ∀ (cs pre : List α), cs.foldl (fun acc c => (f c).foldl addQ acc) (ddq (pre.flatMap f)) = ddq ((cs.foldl addQ pre).flatMap f) := by
    intro cs
    induction cs with
    | nil => intro pre; rfl
    | cons c r ih =>
      intro pre
      rw [List.foldl_cons, List.foldl_cons, ← ih]
      congr 1
      by_cases z : c ∈ pre
      · have e : addQ pre c = pre := if_pos z
        rw [e]
        exact addAll_same _ _ fun x m => ddq_mem.mpr (List.mem_flatMap.mpr ⟨c, z, m⟩)
      · have e : addQ pre c = pre ++ [c] := if_neg z
        rw [e, List.flatMap_append]
        unfold ddq
        rw [List.foldl_append]
        simp
  have h := key cs []
  have e0 : ddq (([] : List α).flatMap f) = [] := rfl
  rw [e0] at h
  unfold ddq at h ⊢
  rw [fold_flat f cs, h]
theorem bestS_nodup {W : Wd} {l : Cl} : ∀ (ss : List Str) (b : List Sct), b.Nodup → (bestS W l ss b).Nodup
  | [], b, h => h
  | s :: r, b, h => by
    have e : bestS W l (s :: r) b = bestS W l r (if W.srel s = l.r then (match inS W s l with
      | none => b
      | some x => if x.length < b.length then x else b) else b) := rfl
    rw [e]
    refine bestS_nodup r _ ?_
    split
    · unfold inS
      split
      · exact h
      · rename_i x ex
        split at ex
        · cases ex
        · cases ex
          split
          · exact bsec_nodup _ _ _
          · exact h
    · exact h
theorem callS_nodup (R : Tb) (W : Wd) (ss : List Str) (l : Cl) : (callS R W ss l).Nodup := by
  unfold callS
  split
  · exact bestS_nodup _ _ (bsec_nodup _ _ _)
  · exact List.nodup_nil
theorem bestS_nm {W : Wd} {l : Cl} : ∀ (ss : List Str) (b : List Sct), (∀ s ∈ ss, Nm.str s ∈ NmL) → (∀ x ∈ b, x.1 ∈ NmL) → ∀ x ∈ bestS W l ss b, x.1 ∈ NmL
  | [], b, _, h => h
  | s :: r, b, hs, h => by
    have e : bestS W l (s :: r) b = bestS W l r (if W.srel s = l.r then (match inS W s l with
      | none => b
      | some x => if x.length < b.length then x else b) else b) := rfl
    rw [e]
    refine bestS_nm r _ (fun u m => hs u (List.mem_cons_of_mem _ m)) ?_
    split
    · unfold inS
      split
      · exact h
      · rename_i x ex
        split at ex
        · cases ex
        · cases ex
          split
          · intro y my
            obtain ⟨j, _, rfl⟩ := List.mem_map.mp my
            exact hs s List.mem_cons_self
          · exact h
    · exact h
theorem callS_nm {R : Tb} {W : Wd} {ss : List Str} {l : Cl} (hR : ∀ m, (valG R m).isSome = true → Nm.rel m ∈ NmL) (hs : ∀ s ∈ ss, Nm.str s ∈ NmL) : ∀ x ∈ callS R W ss l, x.1 ∈ NmL := by
  unfold callS
  split
  · rename_i ok
    refine bestS_nm _ _ hs fun x m => ?_
    obtain ⟨j, _, rfl⟩ := List.mem_map.mp m
    exact hR l.r ok.1
  · intro x m
    nomatch m
theorem encS_eqv (a b : Sct) : PyData.eqv (encS a) (encS b) = decide (a = b) := by
  have e : PyData.eqv (encS a) (encS b) = ((nmW a.1 == nmW b.1 && nmN a.1 == nmN b.1) && a.2 == b.2) := by
    unfold encS
    simp [PyData.eqv, PyData.eqvAll]
  rw [e]
  by_cases h : a = b
  · subst h
    simp
  · rw [decide_eq_false h]
    refine Bool.eq_false_iff.mpr fun z => h ?_
    simp only [Bool.and_eq_true, beq_iff_eq] at z
    obtain ⟨⟨z1, z2⟩, z3⟩ := z
    refine Prod.ext (mkey_inj ?_) z3
    unfold mkey
    rw [z1, z2]
theorem secs_any (bs : List Sct) (b : Sct) : (bs.map encS).any (fun z => PyData.eqv z (encS b)) = decide (b ∈ bs) := by
  by_cases h : b ∈ bs
  · rw [decide_eq_true h]
    exact List.any_eq_true.mpr ⟨_, List.mem_map.mpr ⟨b, h, rfl⟩, by rw [encS_eqv]; exact decide_eq_true rfl⟩
  · rw [decide_eq_false h]
    refine List.any_eq_false.mpr fun d m z => h ?_
    obtain ⟨a, ma, rfl⟩ := List.mem_map.mp m
    rw [encS_eqv] at z
    rw [← of_decide_eq_true z]
    exact ma
theorem encS_shaped {b : Sct} (h : b.1 ∈ NmL) : SeqAt.shaped (encS b) = true := by
  unfold SeqAt.shaped
  rw [encS_lay h, encS_dep2]
  rfl
theorem srtB_mem {bs : List Sct} {b : Sct} : b ∈ srtB bs ↔ b ∈ bs := List.mem_mergeSort
def srtK (i : Nat) : List Str := ([[], ["s"], ["t", "w"], ["s", "u"], ["s", "t", "u"], ["w"]] : List (List Str)).getD i []
theorem srtK_ok : ∀ i, i < 6 → (srtK i).Perm (layK i) ∧ sortedS (srtK i) = true ∧ (∀ n ∈ layK i, n ∈ NS4) ∧ ∀ n ∈ srtK i, Nm.str n ∈ NmL := by
  intro i hi
  have : i = 0 ∨ i = 1 ∨ i = 2 ∨ i = 3 ∨ i = 4 ∨ i = 5 := by omega
  rcases this with rfl | rfl | rfl | rfl | rfl | rfl <;> decide +kernel
theorem LawV.lay {K : PySem.W.Frag} {C : Addr} {H : Hp} {x : Addr} {R : Tb} {F : Fb} {S : Tb} {L : List (Str × V)} {W : Wd} {y : Nat → Addr} (h : LawV K C H x R F S L W y) {i : Nat} (hi : i < 6) : LayOk K H (y i) S (layK i) (srtK i) := by
  obtain ⟨a, b, c, _⟩ := srtK_ok i hi
  exact ⟨(h.lt i hi).sq, a, b, Nat.lt_of_le_of_lt (layK_ok i hi).1 (by decide), fun n m => (h.sn n).mpr (c n m)⟩
/-- no call of the law's relations -/
theorem callS_no {R : Tb} {W : Wd} {ss : List Str} {l : Cl} (h : ¬ okC R W l) : srtB (readS R W ss [l]) = [] := by
  unfold readS callS
  rw [List.flatMap_cons, if_neg h, List.flatMap_nil]
  show srtB [] = []
  unfold srtB
  exact List.mergeSort_nil
end K1
namespace K1
open PySem PySem.Spec PyProof.Rows L2 Ow Tlz
abbrev slaw : Stmt := topS 38
abbrev Nlaw : List Str := ["script", "state", "before", "name", "layout", "calls", "due", "call", "told", "k", "sector"]
theorem sclaw : FnScope Nlaw ["script"] (defScope slaw) := ⟨rfl, rfl, rfl, by decide +kernel, rfl, by decide +kernel, by decide +kernel⟩
theorem CallAt.tk {K : PySem.W.Frag} {H H' : Hp} {c : Addr} {l : Cl} (h : CallAt K H c l) (t : Tk K H H') : CallAt K H' c l := by
  obtain ⟨q, h1, h2, h3⟩ := h
  exact ⟨q, t _ _ h1, t _ _ h2, h3⟩
def spLaw (K : PySem.W.Frag) : Sp := fun vs H Q _ => ∃ (a : Addr) (ns : List Int), vs = [.ref a] ∧ SqL K H a (ns.map V.int) ∧ ns.length ≤ 63 ∧ ∀ H', Q (.bl true) H'
section
variable {P : Program} {w : World} {K : PySem.W.Frag} {mg : Str → Option Value} {base : Heap} {C : Addr}
theorem ok_law {f : Addr} {fd : FuncData} (F0 : Fun K "law" "law" slaw f fd) (T0 : Bl mg) (hrep : mg "repr" = none) (X : Txt K mg C) (Sall : Kmt P w K mg base C 1 "all_items" ["self"] (spAll K C))
    (D_law_state : Kn P w K mg base 8 "_law_state" ["script", "start"] (spState K C)) (D_law_draw : Kn P w K mg base 1 "_law_draw" ["script", "k"] (spDraw K)) (D_law_call : Kn P w K mg base 2 "_law_call" ["number"] (spLCall K))
    (D_law_read : Kn P w K mg base 15 "_law_read" ["state", "layout", "call"] (spLRead K C)) (Dall_read : Kn P w K mg base 14 "all_read" ["state", "layout", "calls"] (spAllRd K C)) (Dread_sectors : Kn P w K mg base 14 "read_sectors" ["state", "layout", "call"] (spRdSec K C)) :
    TopOk P w K mg base f fd ["script"] (spLaw K) := by
  refine top_def F0 sclaw (k := 16) ⟨rfl, by decide, by decide⟩ (fun vs H Q E h => ?_) (fun cdv t0 H vs Q E hr h => ?_)
  · obtain ⟨a, ns, rfl, _⟩ := h
    rfl
  · obtain ⟨a, ns, rfl, hS, hlen, q⟩ := h
    have hgd := caller_guards (envOfC "law" (defScope slaw) t0.heap.objs.size f cdv)
    refine ⟨_, (pss_cons (ps_set (i := 1) sclaw.nd rfl (.inl rfl) (pe_kn D_law_state hr (pa_cons (pv 0) (pa_cons pe_int pa_nil))))
      (pss_cons (ps_set (i := 2) sclaw.nd rfl (.inl rfl) (pe_callB (call_reprD (K := K) rfl hgd (hu70 hr)) (by rfl) hrep (by decide +kernel) (pa_cons (pe_mt0 Sall hr (pv 1)) pa_nil)))
      (pss_cons (ps_for PassesOwn.never rfl (pi_list (pe_callB (call_sortedD rfl) (by rfl) T0.sorted (by decide +kernel) (pa_cons (pe_fld (pv 1) rfl) pa_nil))) (pg_name (i := 3) sclaw.nd rfl (.inl rfl)) (pss_cons (ps_set (i := 4) sclaw.nd rfl (.inl rfl) (pe_dget (hu_of hr) (pe_fld (pv 1) rfl) (pv 3) (fun _ _ => rfl)))
      (pss_cons (ps_setLc (i := 5) (own := [("k", 9)]) (g := gName 9) (tt := tYes) rfl sclaw.nd rfl rfl (sw_true rfl rfl rfl (by decide +kernel)) (pi_range1 (by rfl) T0.range (pa_cons pe_int pa_nil)) (blkOk_by (own := [("k", 9)]) (N := Nlaw) (sc := defScope slaw) (by decide +kernel)) (fun _ _ _ _ _ => pg_name (i := 9) sclaw.nd rfl (Or.inl rfl)) (fun _ _ _ _ _ => pts_nil) (fun _ _ _ _ _ => (pe_kn D_law_call hr (pa_cons (pe_kn D_law_draw hr (pa_cons (pv 0) (pa_cons (pe_op op_add pe_int (pv 9)) pa_nil))) pa_nil))))
      (pss_cons (ps_set (i := 6) sclaw.nd rfl (.inr rfl) (pe_lst pa_nil))
      (pss_cons (ps_for PassesOwn.never rfl (pi_list (pv 5)) (pg_name (i := 7) sclaw.nd rfl (.inl rfl)) (pss_cons (ps_set (i := 8) sclaw.nd rfl (.inl rfl) (pe_kn D_law_read hr (pa_cons (pv 1) (pa_cons (pv 4) (pa_cons (pv 7) pa_nil)))))
      (pss_cons (ps_if (pt_cmpR op_isN (pv 8) pe_non (nomark _)) (pss_one (ps_ret pe_bl)) pss_nil)
      (pss_one (ps_set (i := 6) sclaw.nd rfl (.inr rfl) (pe_op op_cat (pv 6) (pe_lc (own := [("sector", 10)]) (g := gName 10) rfl sclaw.nd (pi_list (pv 8)) (blkOk_by (own := [("sector", 10)]) (N := Nlaw) (sc := defScope slaw) (by decide +kernel)) (fun _ _ _ _ _ => pg_name (i := 10) sclaw.nd rfl (Or.inl rfl)) (fun _ _ _ _ _ => (pts_one (pt_cmpR (op_notInD_K (K := K) rfl (hu65 hr)) (pv 10) (pv 6) (by rfl)))) (fun _ _ _ _ _ => (pv 10)))))))))
      (pss_cons (ps_if (PW.pt (pw_or (pt_cmpR (op_neD (hu64 hr)) (pe_kn Dall_read hr (pa_cons (pv 1) (pa_cons (pv 4) (pa_cons (pv 5) pa_nil)))) (pe_callB (cr_sortedDt (enc := encS) (hu64 hr)) (by rfl) T0.sorted (by decide +kernel) (pa_cons (pv 6) pa_nil)) (nomark _)) (pw_or1 (pt_cmpR (op_neD (hu64 hr)) (pe_kn Dread_sectors hr (pa_cons (pv 1) (pa_cons (pv 4) (pa_cons (pe_tup (pa_cons pe_str (pa_cons (pe_tup (pa_cons pe_non pa_nil)) pa_nil))) pa_nil)))) (pe_lst pa_nil) (nomark _))))) (pss_one (ps_ret pe_bl)) pss_nil)
      (pss_one (ps_if (PW.pt (pw_or (pt_cmpR (op_neD (hu64 hr)) (pe_kn Dread_sectors hr (pa_cons (pv 1) (pa_cons (pv 4) (pa_cons (pe_tup (pa_cons pe_str (pa_cons (pe_tup (pa_cons pe_int pa_nil)) pa_nil))) pa_nil)))) (pe_lst pa_nil) (nomark _)) (pw_or1 (pt_cmpR (op_neD (hu64 hr)) (pe_kn Dread_sectors hr (pa_cons (pv 1) (pa_cons (pv 4) (pa_cons (pe_tup (pa_cons pe_str (pa_cons (pe_tup (pa_cons pe_int (pa_cons pe_int pa_nil))) pa_nil))) pa_nil)))) (pe_lst pa_nil) (nomark _))))) (pss_one (ps_ret pe_bl)) pss_nil))))))))
      (pss_one (ps_ret (pe_cmpR op_eq (pe_callB (call_reprD (K := K) rfl hgd (hu70 hr)) (by rfl) hrep (by decide +kernel) (pa_cons (pe_mt0 Sall hr (pv 1)) pa_nil)) (pv 2) (nomark _))))))), ?_⟩
    refine ⟨_, rfl, a, ns, rfl, hS, hlen, fun x H1 n s1 n1 n6 lst => ?_⟩
    obtain ⟨R, F, S, L, y, lv, lt⟩ := lst.v (bF_b ns 0) (bF_b ns 1) (bF_b ns 2) n6
    generalize lawW F (bF ns 0) (bF ns 1) (bF ns 2) = W at lv
    obtain ⟨dr, df, ds, dl, Z, st⟩ := id lv.st
    obtain ⟨dx, ob⟩ := st.ob
    obtain ⟨lR, lF, lS, lL⟩ := lt.ln
    have noAll := flds_no (m := "all_items") (.ref dr) (.ref df) (.ref ds) (.ref dl) (by decide +kernel)
    refine ⟨_, rfl, x, dx, _, rfl, ob, noAll, x, dr, df, ds, dl, Z, R, S, F, L, 300, rfl, st, Nat.le_refl _, lt.tg, lR, lF, lS, lL, fun its p ys fs ss ls H2 py sy pf sf ps ss' pl sl ete s12 np ep ig => ?_⟩
    -- the data of all items
    obtain ⟨dat, ld, hd1, hd2⟩ := pick_ds (lt.dat ys fs ss ls py pf ps pl)
    have ldi : dat.length ≤ 300 := by
      have fl : fs.length ≤ 2 := by
        have nd : fs.Nodup := (pf.nodup_iff).mpr st.fn
        have := Ow.nodup_len fs (["p", "q"] : List Str) nd fun n m => by
          obtain ⟨⟨q0, rs⟩, e⟩ := some_val (valG_key.mp (pf.mem_iff.mp m))
          rcases lt.fl n (by rw [e]; rfl) with rfl | rfl
          · exact List.mem_cons_self
          · exact List.mem_cons_of_mem _ List.mem_cons_self
        exact this
      have fr : (fs.flatMap fun n => (rOf F n).map fun t => ier (.fact n t.1 t.2)).length ≤ fs.length * 50 := flat_le fs _ 50 fun n m => by
        obtain ⟨⟨q0, rs⟩, e⟩ := some_val (valG_key.mp (pf.mem_iff.mp m))
        rw [rOf_eq e, List.length_map]
        exact lt.rw_ n q0 rs e
      have l1 := py.length_eq
      have l2 := ps.length_eq
      have l3 := pl.length_eq
      rw [List.length_map] at l1 l2 l3
      rw [ld]
      unfold allE
      rw [List.length_append, List.length_append, List.length_append, List.length_map, List.length_map, List.length_map]
      have : fs.length * 50 ≤ 100 := by omega
      omega
    have sdD : Sd 3 (300 * 403) (.list dat) := Sd.list 300 hd2 ldi
    obtain ⟨w1, w2, w3, w4⟩ := sdD.show (by decide) (by decide)
    have dpA : ∀ {G : Hp} {its' : Its} {p' : Addr}, Same H1 G → its'.map te = allE R F S L ys fs ss ls → ItsG K G its' → G p' = some (.lst (irf its')) → Dp K G (.ref p') (.list dat) := fun {G its' p'} s e ig' ep' => by
      refine .lst (SqL.of ep') (items_dp (fun t m => (ig' t m).at_) ?_ fun i t d h1 h2 => ?_)
      · rw [ld, ← e, List.length_map]
      · refine (hd1 i (te t) d ?_ h2).same s
        rw [← e, List.getElem?_map, h1]
        rfl
    refine ⟨p, .list dat, rfl, dpA s12 ete ig ep, w1, w2, w3, w4, ?_⟩
    generalize htxt : (PyData.list dat).shown = txt at *
    have sH2 := s1.trans s12
    have lv2 := lv.same s12
    have st2 := st.same s12
    -- the layouts
    refine ⟨_, rfl, x, C, dx, _, _, rfl, s12 _ _ ob, X.cl, X.nL, flds_l _ _ _ _, dl, kvG id L, L.map (·.1), rfl, .inl st2.l, kvL_keys L, by rw [List.length_map]; exact lL, fun ls2 sp pl2 sl2 nsp => ?_⟩
    have s23 := Same.new (o := .lst (ls2.map V.str)) nsp
    have esp := upd_same (H := H2) (a := sp) (o := .lst (ls2.map V.str))
    generalize (upd H2 sp (.lst (ls2.map V.str))) = H3 at *
    have s13 := s12.trans s23
    have sH3 := s1.trans s13
    refine ⟨sp, rfl, ⟨_, SqL.of esp⟩, for_list (K := K) (a := sp) (xs := ls2.map V.str) (fun i σ G => ∃ (y3 y4 y5 y6 y7 y8 y9 y10 : Option V), σ = [some (.ref a), some (.ref x), some (.str txt), y3, y4, y5, y6, y7, y8, y9, y10] ∧ Same H3 G)
      ⟨none, none, none, none, none, none, none, none, rfl, Same.refl _⟩ (fun i σ G _ hP => ?_) (fun i v σ G hy hP => ?_) (fun σ G hP => ?_)⟩
    · obtain ⟨_, _, _, _, _, _, _, _, _, sG⟩ := hP
      exact sG.seq (SqL.of esp)
    · obtain ⟨y3, y4, y5, y6, y7, y8, y9, y10, rfl, sG⟩ := hP
      rw [List.getElem?_map] at hy
      obtain ⟨nm, en, rfl⟩ := Option.map_eq_some_iff.mp hy
      obtain ⟨lw, el⟩ := key_some pl2 en
      obtain ⟨k, hk, rfl⟩ := lv.ly nm lw el
      have sG1 := s13.trans sG
      have stG := st.same sG1
      refine ⟨_, rfl, x, C, dx, _, _, rfl, sG1 _ _ ob, X.cl, X.nL, flds_l _ _ _ _, _, rfl, dl, _, rfl, dgetL (.inl stG.l) el, ?_⟩
      -- the calls
      refine ⟨_, rfl, by decide, by decide, fun D nD => ?_⟩
      refine lc_it (walk_range (lo := 0) (n := (4 : Int).toNat)) (fun j G1 => Same G G1 ∧ ∃ ts : List (Addr × Cl), G1 D = some (.lst (ts.map fun t => V.ref t.1)) ∧ ts.length = j ∧ ∀ t ∈ ts, CallAt K G1 t.1 t.2 ∧ ClOk t.2 ∧ ClLV t.2) ⟨Same.new nD, [], upd_same, rfl, fun t m => nomatch m⟩ (fun _ _ _ _ => trivial) (fun j z G1 G1' hj hP yy => ?_) fun G1 hP => ?_
      · obtain ⟨rfl, rfl⟩ := yy
        obtain ⟨g1, ts, eD, lts, hts⟩ := hP
        have hj' : j < 4 := hj
        refine ⟨rfl, _, rfl, _, rfl, _, _, rfl, rfl, a, ns, 50 + j, congrArg (fun z : Int => [V.ref a, V.int z]) (show (50 : Int) + (0 + (j : Int)) = ((50 + j : Nat) : Int) by omega), (sH3.trans (sG.trans g1)).seq hS, hlen, by omega, _, rfl, fun G2 c l g12 ca ok1 ok2 => ?_⟩
        have g02 := g1.trans g12
        refine ⟨_, g12 _ _ eD, by rw [List.length_map, lts]; exact Nat.lt_of_lt_of_le (show j < 100 by omega) (by decide), Same.over g02 nD, ts ++ [(c, l)], by rw [upd_same, List.map_append]; rfl, by rw [List.length_append, lts]; rfl, fun t m => ?_⟩
        have tk : Tk K G2 (upd G2 D (.lst ((ts.map fun t => V.ref t.1) ++ [.ref c]))) := Tk.put (g12 _ _ eD)
        rcases List.mem_append.mp m with m | m
        · obtain ⟨h1, h2⟩ := hts t m
          exact ⟨(h1.same g12).tk tk, h2⟩
        · obtain rfl : t = (c, l) := by simpa using m
          exact ⟨ca.tk tk, ok1, ok2⟩
      obtain ⟨g1, ts, eD, lts, hts⟩ := hP
      have lts4 : ts.length = 4 := lts
      have lo : LayOk K G (y k) S (layK k) (srtK k) := (lv.same sG1).lay hk
      have snm := (srtK_ok k hk).2.2.2
      have rnm : ∀ m, (valG R m).isSome = true → Nm.rel m ∈ NmL := fun m e => by
        rcases (lv.rn m).mp e with rfl | rfl <;> decide +kernel
      have lnR : R.length ≤ 500 := by omega
      have lnS : S.length ≤ 500 := by omega
      refine ⟨sz 0, fun du0 ndu => ?_⟩
      have g2 := Same.new (o := .lst []) ndu
      have edu := upd_same (H := G1) (a := du0) (o := .lst [])
      have eD2 := g2 _ _ eD
      generalize (upd G1 du0 (.lst [])) = G2 at *
      have hts2 : ∀ t ∈ ts, CallAt K G2 t.1 t.2 ∧ ClOk t.2 ∧ ClLV t.2 := fun t m => ⟨(hts t m).1.same g2, (hts t m).2⟩
      have gG2 := g1.trans g2
      -- what the law reads
      refine ⟨_, rfl, D, rfl, ⟨_, SqL.of eD2⟩, for_list (K := K) (a := D) (xs := ts.map fun t => V.ref t.1) (fun j σ G5 => ∃ (v7 v8 v9 v10 : Option V) (du : Addr) (zs : List (Addr × Sct)), σ = [some (.ref a), some (.ref x), some (.str txt), some (.str nm), some (.ref (y k)), some (.ref D), some (.ref du), v7, v8, v9, v10] ∧ Same G2 G5 ∧
        G5 du = some (.lst (zs.map fun t => V.ref t.1)) ∧ zs.map (·.2) = ddq (((ts.map (·.2)).take j).flatMap (callS R W (srtK k))) ∧ (∀ t ∈ zs, SecAt K G5 t.1 t.2) ∧ zs.length ≤ 100 * j) ⟨_, _, _, _, du0, [], rfl, Same.refl _, edu, rfl, (fun t m => nomatch m), Nat.le_refl _⟩ (fun j σ G5 _ hP => ?_) (fun j v σ G5 hy hP => ?_) (fun σ G5 hP => ?_)⟩
      · obtain ⟨_, _, _, _, _, _, _, s5, _⟩ := hP
        exact s5.seq (SqL.of eD2)
      · obtain ⟨v7, v8, v9, v10, du, zs, rfl, s5, ezs, em, hz, lz⟩ := hP
        rw [List.getElem?_map] at hy
        obtain ⟨t, et, rfl⟩ := Option.map_eq_some_iff.mp hy
        obtain ⟨ca, ok1, ok2⟩ := hts2 t (List.mem_of_getElem? et)
        have sG5 := gG2.trans s5
        have lv5 := lv.same (sG1.trans sG5)
        refine ⟨_, rfl, _, rfl, _, rfl, x, y k, t.1, layK k, srtK k, t.2, R, F, S, L, W, y, rfl, lv5, lo.same sG5, ca.same s5, ok1, ok2, fun G6 pr s56 sec => ?_⟩
        refine ⟨_, rfl, rfl, _, rfl, ite2 (fun z => by simp at z) fun _ => ?_⟩
        obtain ⟨tz, z1, z2, z3⟩ := sec
        have nmz : ∀ u ∈ tz, u.2.1 ∈ NmL := fun u mu => callS_nm rnm snm u.2 (by rw [← z2]; exact List.mem_map.mpr ⟨u, mu, rfl⟩)
        have nmd : ∀ b ∈ zs.map (·.2), b.1 ∈ NmL := fun b mb => by
          rw [em] at mb
          obtain ⟨l, ml, mb⟩ := List.mem_flatMap.mp (ddq_mem.mp mb)
          exact callS_nm rnm snm b mb
        have ltz : tz.length ≤ 90 := by
          have := congrArg List.length z2
          rw [List.length_map] at this
          rw [this]
          exact callS_len lv5.wv _ _
        have ltr : (tz.map fun t => V.ref t.1).length = tz.length := List.length_map _
        have hz6 : ∀ u ∈ zs, SecAt K G6 u.1 u.2 := fun u mu => (hz u mu).same s56
        have ez6 := s56 _ _ ezs
        refine ⟨_, rfl, _, rfl, pr, rfl, ⟨_, z1⟩, fun D6 nD6 => lc_fl (walk_list (K := K) (a := pr) (xs := tz.map fun t => V.ref t.1)) (fun j => (tz.map fun t => decide (t.2 ∉ zs.map (·.2))).getD j false) (fun j => (tz.map fun t => V.ref t.1).getD j .non) (by rw [ltr]; exact Nat.lt_of_le_of_lt ltz (by decide)) nD6 (fun G7 s => s.seq z1) (fun m v G7 G7' N M hm sg yy fin fin2 => ?_) fun G7 s67 eD6 => ?_⟩
        · obtain ⟨rfl, ev⟩ := yy
          rw [List.getElem?_map] at ev
          obtain ⟨u, eu, rfl⟩ := Option.map_eq_some_iff.mp ev
          have mu := List.mem_of_getElem? eu
          have e1 : (tz.map fun t => decide (t.2 ∉ zs.map (·.2))).getD m false = decide (u.2 ∉ zs.map (·.2)) := by
            rw [List.getD_eq_getElem?_getD, List.getElem?_map, eu]
            rfl
          have e2 : (tz.map fun t => V.ref t.1).getD m .non = V.ref u.1 := by
            rw [List.getD_eq_getElem?_getD, List.getElem?_map, eu]
            rfl
          rw [e1] at fin fin2
          rw [e2] at fin
          have dz : Sec K G7' du (zs.map (·.2)) := ⟨zs, SqL.of (sg _ _ ez6), rfl, fun w mw => (hz6 w mw).same sg⟩
          refine ⟨rfl, _, rfl, _, rfl, _, _, ((z3 u mu).same sg).dp, dz.dp, encS_shaped (nmz u mu), secs_shaped nmd, _, rfl, ?_⟩
          rw [secs_any]
          by_cases z : u.2 ∈ zs.map (·.2)
          · rw [decide_eq_true z]
            exact ite2 (fun y => by cases y) fun _ => fin2 (decide_eq_false fun n => n z) _ (Same.refl _)
          · rw [decide_eq_false z]
            exact ite2 (fun _ => ⟨_, rfl, fin (decide_eq_true z) _ (Same.refl _)⟩) fun y => absurd rfl y
        rw [ltr, filter_get] at eD6
        have l2 : (tz.filter fun t => decide (t.2 ∉ zs.map (·.2))).length ≤ tz.length := List.length_filter_le _ _
        refine ⟨du, D6, _, _, rfl, rfl, s67 _ _ ez6, eD6, by rw [List.length_map, List.length_map]; exact Nat.le_trans (Nat.add_le_add lz (Nat.le_trans l2 ltz)) (Nat.le_trans (show 100 * j + 90 ≤ 1000 by
          have := (List.getElem?_eq_some_iff.mp et).1
          omega) (by decide)), fun pn npn => ?_⟩
        have s78 := Same.new (o := .lst ((zs.map fun t => V.ref t.1) ++ ((tz.filter fun t => decide (t.2 ∉ zs.map (·.2))).map fun t => V.ref t.1))) npn
        have s58 := (s56.trans s67).trans s78
        refine ⟨_, _, _, _, pn, zs ++ tz.filter fun t => decide (t.2 ∉ zs.map (·.2)), rfl, s5.trans s58, by rw [upd_same, List.map_append], ?_, fun u mu => ?_, ?_⟩
        · have e2 : (ts.map (·.2))[j]? = some t.2 := by rw [List.getElem?_map, et]; rfl
          rw [take_snoc' e2, List.flatMap_append, List.map_append]
          have e3 : [t.2].flatMap (callS R W (srtK k)) = callS R W (srtK k) t.2 := by simp
          rw [e3, ddq_app _ _ (callS_nodup _ _ _ _), ← em, ← z2, List.filter_map]
          exact congrArg (fun l : List (Addr × Sct) => zs.map (fun t => t.2) ++ l.map (fun t => t.2)) (List.filter_congr fun u _ => decide_eq_decide.mpr Iff.rfl)
        · rcases List.mem_append.mp mu with mu | mu
          · exact (hz u mu).same s58
          · exact (z3 u (List.mem_filter.mp mu).1).same (s67.trans s78)
        · rw [List.length_append]
          omega
      obtain ⟨v7, v8, v9, v10, du, zs, rfl, s5, ezs, em, hz, lz⟩ := hP
      rw [List.length_map, List.take_of_length_le (by rw [List.length_map]; exact Nat.le_refl _)] at em
      have sG5 := gG2.trans s5
      have lv5 := lv.same (sG1.trans sG5)
      have eD5 := s5 _ _ eD2
      have hts5 : ∀ t ∈ ts, CallAt K G5 t.1 t.2 := fun t m => (hts2 t m).1.same s5
      have eF : zs.map (·.2) = ddq ((ts.map (·.2)).flatMap (callS R W (srtK k))) := em
      have nmF : ∀ b ∈ srtB (ddq ((ts.map (·.2)).flatMap (callS R W (srtK k)))), b.1 ∈ NmL := fun b mb => by
        obtain ⟨l, ml, mb⟩ := List.mem_flatMap.mp (ddq_mem.mp (srtB_mem.mp mb))
        exact callS_nm rnm snm b mb
      -- all_read
      refine ⟨_, rfl, _, rfl, _, rfl, x, y k, D, layK k, srtK k, ts, R, S, F, W, rfl, lv5.wv, lo.same sG5, SqL.of eD5, hts5, by omega, lnR, lnS, fun G6 pr s56 npr sec => ?_⟩
      refine ⟨_, rfl, du, _, zs.map (fun t : Addr × Sct => t.2), rfl, SqL.of (s56 _ _ ezs), secs_srt fun t m => (hz t m).same s56, fun zz p7 out np7 => ?_⟩
      obtain ⟨vs, e1, e2, e3⟩ := secs_out out
      have s67 := Same.new (o := .lst zz) np7
      have sd7 : Sec K (upd G6 p7 (.lst zz)) p7 (srtB (zs.map (·.2))) := ⟨vs, by rw [← e1]; exact SqL.of upd_same, e2, fun t m => (hz t (e3 t m)).same (s56.trans s67)⟩
      have eR : srtB (readS R W (srtK k) (ddq (ts.map (·.2)))) = srtB (ddq ((ts.map (·.2)).flatMap (callS R W (srtK k)))) := by
        unfold readS
        rw [ddq_flat]
      rw [eR] at sec
      rw [eF] at sd7
      have sc7 := sec.same s67
      generalize (upd G6 p7 (.lst zz)) = G7 at *
      refine ⟨_, _, sc7.dp, sd7.dp, secs_shaped nmF, secs_shaped nmF, _, rfl, ?_⟩
      rw [secs_eqv]
      refine ite2 (fun z => by cases z) fun _ => ?_
      have sG7 := sG5.trans (s56.trans s67)
      -- calls that read nothing
      have emp : ∀ {G : Hp} {q : Addr} {l : Cl}, ¬ okC R W l → Sec K G q (srtB (readS R W (srtK k) [l])) → Dp K G (.ref q) (.list []) := fun {G q l} no sc => by
        rw [callS_no no] at sc
        exact sc.dp
      have shp : SeqAt.shaped (.list []) = true := by decide +kernel
      have eq0 : PyData.eqv (.list []) (.list []) = true := by simp [PyData.eqv, PyData.eqvAll]
      have sc1 : Scal (.int 1) := LV_sc (by simp [LV])
      have sc2 : Scal (.int 2) := LV_sc (by simp [LV])
      obtain ⟨b0, b1, b2, eWw⟩ := lv.eW
      refine ⟨_, rfl, _, rfl, sz 1, fun t1 nt1 => ⟨sz 2, fun c1 nc1 => ?_⟩⟩
      have s78 := (Same.new (o := .tup [V.non]) nt1)
      have e8 := upd_same (H := G7) (a := t1) (o := .tup [V.non])
      generalize (upd G7 t1 (.tup [V.non])) = G8 at *
      have s89 := (Same.new (o := .tup [V.str "z", .ref t1]) nc1)
      have e9 := upd_same (H := G8) (a := c1) (o := .tup [V.str "z", .ref t1])
      have e8' := s89 _ _ e8
      generalize (upd G8 c1 (.tup [V.str "z", .ref t1])) = G9 at *
      have sG9 := (sG7.trans s78).trans s89
      refine ⟨x, y k, c1, layK k, srtK k, ⟨"z", [.non]⟩, R, S, F, W, rfl, (lv.same (sG1.trans sG9)).wv, lo.same sG9, ⟨t1, SqT.of e9, SqT.of e8', (fun v m => .inl (List.mem_singleton.mp m)), by show 1 ≤ 10; decide⟩, lnR, lnS, fun G10 p10 s910 np10 sc10 => ⟨sz 0, fun p11 np11 => ?_⟩⟩
      have s1011 := Same.new (o := .lst []) np11
      have no1 : ¬ okC R W ⟨"z", [.non]⟩ := fun z => by
        rcases (lv.rn "z").mp z.1 with h | h <;> exact absurd h (by decide +kernel)
      refine ⟨_, _, emp no1 (sc10.same s1011), .lst (SqL.of upd_same) .nil, shp, shp, _, rfl, ?_⟩
      rw [eq0]
      refine ite2 (fun z => by cases z) fun _ => ?_
      have sG11 := (sG9.trans s910).trans s1011
      generalize (upd G10 p11 (.lst [])) = G11 at *
      clear sc7 sd7 s78 e8 s89 e9 e8' sG9 s910 np10 sc10 np11 s1011 nt1 nc1 t1 c1
      refine ⟨_, rfl, _, rfl, sz 1, fun t1 nt1 => ⟨sz 2, fun c1 nc1 => ?_⟩⟩
      have s78 := (Same.new (o := .tup [V.int 1]) nt1)
      have e8 := upd_same (H := G11) (a := t1) (o := .tup [V.int 1])
      generalize (upd G11 t1 (.tup [V.int 1])) = G12 at *
      have s89 := (Same.new (o := .tup [V.str "p", .ref t1]) nc1)
      have e9 := upd_same (H := G12) (a := c1) (o := .tup [V.str "p", .ref t1])
      have e8' := s89 _ _ e8
      generalize (upd G12 c1 (.tup [V.str "p", .ref t1])) = G13 at *
      have sG9 := (sG11.trans s78).trans s89
      refine ⟨x, y k, c1, layK k, srtK k, ⟨"p", [.int 1]⟩, R, S, F, W, rfl, (lv.same (sG1.trans sG9)).wv, lo.same sG9, ⟨t1, SqT.of e9, SqT.of e8', (fun v m => .inr (by rw [List.mem_singleton.mp m]; exact sc1)), by show 1 ≤ 10; decide⟩, lnR, lnS, fun G14 p14 s910 np10 sc10 => ⟨sz 0, fun p15 np11 => ?_⟩⟩
      have s1011 := Same.new (o := .lst []) np11
      have no2 : ¬ okC R W ⟨"p", [.int 1]⟩ := fun z => by
        have z2 : 1 = (W.cols "p").length := z.2
        rw [eWw, lw_p] at z2
        cases z2
      refine ⟨_, _, emp no2 (sc10.same s1011), .lst (SqL.of upd_same) .nil, shp, shp, _, rfl, ?_⟩
      rw [eq0]
      refine ite2 (fun z => by cases z) fun _ => ?_
      have sG15 := (sG9.trans s910).trans s1011
      generalize (upd G14 p15 (.lst [])) = G15 at *
      clear s78 e8 s89 e9 e8' sG9 s910 np10 sc10 np11 s1011 nt1 nc1 t1 c1
      refine ⟨_, rfl, _, rfl, sz 2, fun t1 nt1 => ⟨sz 2, fun c1 nc1 => ?_⟩⟩
      have s78 := (Same.new (o := .tup [V.int 1, .int 2]) nt1)
      have e8 := upd_same (H := G15) (a := t1) (o := .tup [V.int 1, .int 2])
      generalize (upd G15 t1 (.tup [V.int 1, .int 2])) = G16 at *
      have s89 := (Same.new (o := .tup [V.str "q", .ref t1]) nc1)
      have e9 := upd_same (H := G16) (a := c1) (o := .tup [V.str "q", .ref t1])
      have e8' := s89 _ _ e8
      generalize (upd G16 c1 (.tup [V.str "q", .ref t1])) = G17 at *
      have sG9 := (sG15.trans s78).trans s89
      refine ⟨x, y k, c1, layK k, srtK k, ⟨"q", [.int 1, .int 2]⟩, R, S, F, W, rfl, (lv.same (sG1.trans sG9)).wv, lo.same sG9, ⟨t1, SqT.of e9, SqT.of e8', (fun v m => .inr (by
        rcases List.mem_cons.mp m with rfl | m
        · exact sc1
        · rw [List.mem_singleton.mp m]; exact sc2)), by show 2 ≤ 10; decide⟩, lnR, lnS, fun G18 p18 s910 np10 sc10 => ⟨sz 0, fun p19 np11 => ?_⟩⟩
      have s1011 := Same.new (o := .lst []) np11
      have no3 : ¬ okC R W ⟨"q", [.int 1, .int 2]⟩ := fun z => by
        have z2 : 2 = (W.cols "q").length := z.2
        rw [eWw, lw_q] at z2
        cases z2
      refine ⟨_, _, emp no3 (sc10.same s1011), .lst (SqL.of upd_same) .nil, shp, shp, _, rfl, ?_⟩
      rw [eq0]
      refine ite2 (fun z => by cases z) fun _ => ?_
      exact ⟨_, _, _, _, _, _, _, _, rfl, sG.trans ((sG9.trans s910).trans s1011)⟩
    · obtain ⟨y3, y4, y5, y6, y7, y8, y9, y10, rfl, sG⟩ := hP
      have sG1 := s13.trans sG
      refine ⟨_, rfl, x, dx, _, rfl, sG1 _ _ ob, noAll, x, dr, df, ds, dl, _, R, S, F, L, 300, rfl, st.same sG1, Nat.le_refl _, lt.tg.same sG1, lR, lF, lS, lL, fun its' p' ys' fs2 ss2 ls3 G2 py2 sy2 pf2 sf2 ps2 ss3 pl3 sl3 ete2 sG2 np2 ep2 ig2 => ?_⟩
      have a1 : ys' = ys := sortedS_one sy2 sy (py2.trans py.symm)
      have a2 : fs2 = fs := sortedS_one sf2 sf (pf2.trans pf.symm)
      have a3 : ss2 = ss := sortedS_one ss3 ss' (ps2.trans ps.symm)
      have a4 : ls3 = ls := sortedS_one sl3 sl (pl3.trans pl.symm)
      subst a1
      subst a2
      subst a3
      subst a4
      refine ⟨p', .list dat, rfl, dpA (sG1.trans sG2) ete2 ig2 ep2, w1, w2, w3, by rw [htxt]; exact w4, ?_⟩
      rw [htxt]
      refine ⟨_, rfl, rfl, ?_⟩
      have e : decide (V.str txt = V.str txt) = true := decide_eq_true rfl
      rw [e]
      exact q _
end
end K1
namespace K1
open PySem PySem.Spec PyProof.Rows L2 Ow
theorem kn_of {P : Program} {w : World} {K : PySem.W.Frag} {mg : Str → Option Value} {base : Heap} {k : Nat} {x qual : Str} {st : Stmt} {f : Addr} {fd : FuncData} {ps : List Str} {sp : Sp}
    (F : Fun K x qual st f fd) (g : mg x = some (.ref f)) (b : Binds K fd ps []) (ok : FnOk P w K mg base CX0 k f fd ps sp) : Kn P w K mg base k x ps sp := ⟨⟨f, fd, ok, g, F.kp, b⟩⟩
theorem all_mk {l : PySem.W.OpenLaw} {w : World} {K : PySem.W.Frag} {h : Heap} {mg : Str → Option Value} {fa : Addr} (X : K.In h) (G : h.Ns mainGlobals mg) (hfa : mg "law" = some (.ref fa))
    {f1 : Addr} {od1 an1 : Option Addr} {sl1 : Array (Option Value)} {oc1 kV1 dc1 pm1 cd1 ct1 : Value}
    {f2 : Addr} {od2 an2 : Option Addr} {sl2 : Array (Option Value)} {oc2 kV2 dc2 pm2 cd2 ct2 : Value}
    {f3 : Addr} {od3 an3 : Option Addr} {sl3 : Array (Option Value)} {oc3 kV3 dc3 pm3 cd3 ct3 : Value}
    {f4 : Addr} {od4 an4 : Option Addr} {sl4 : Array (Option Value)} {oc4 kV4 dc4 pm4 cd4 ct4 : Value}
    {f5 : Addr} {od5 an5 : Option Addr} {sl5 : Array (Option Value)} {oc5 kV5 dc5 pm5 cd5 ct5 : Value}
    {f6 : Addr} {od6 an6 : Option Addr} {sl6 : Array (Option Value)} {oc6 kV6 dc6 pm6 cd6 ct6 : Value}
    {f7 : Addr} {od7 an7 : Option Addr} {sl7 : Array (Option Value)} {oc7 kV7 dc7 pm7 cd7 ct7 : Value}
    {f8 : Addr} {od8 an8 : Option Addr} {sl8 : Array (Option Value)} {oc8 kV8 dc8 pm8 cd8 ct8 : Value}
    {f9 : Addr} {od9 an9 : Option Addr} {sl9 : Array (Option Value)} {oc9 kV9 dc9 pm9 cd9 ct9 : Value}
    {f10 : Addr} {od10 an10 : Option Addr} {sl10 : Array (Option Value)} {oc10 kV10 dc10 pm10 cd10 ct10 : Value}
    {f11 : Addr} {od11 an11 : Option Addr} {sl11 : Array (Option Value)} {oc11 kV11 dc11 pm11 cd11 ct11 : Value}
    {f12 : Addr} {od12 an12 : Option Addr} {sl12 : Array (Option Value)} {oc12 kV12 dc12 pm12 cd12 ct12 : Value}
    {f13 : Addr} {od13 an13 : Option Addr} {sl13 : Array (Option Value)} {oc13 kV13 dc13 pm13 cd13 ct13 : Value}
    {f14 : Addr} {od14 an14 : Option Addr} {sl14 : Array (Option Value)} {oc14 kV14 dc14 pm14 cd14 ct14 : Value}
    {f15 : Addr} {od15 an15 : Option Addr} {sl15 : Array (Option Value)} {oc15 kV15 dc15 pm15 cd15 ct15 : Value}
    {f16 : Addr} {od16 an16 : Option Addr} {sl16 : Array (Option Value)} {oc16 kV16 dc16 pm16 cd16 ct16 : Value}
    {f17 : Addr} {od17 an17 : Option Addr} {sl17 : Array (Option Value)} {oc17 kV17 dc17 pm17 cd17 ct17 : Value}
    {f18 : Addr} {od18 an18 : Option Addr} {sl18 : Array (Option Value)} {oc18 kV18 dc18 pm18 cd18 ct18 : Value}
    {f19 : Addr} {od19 an19 : Option Addr} {sl19 : Array (Option Value)} {oc19 kV19 dc19 pm19 cd19 ct19 : Value}
    {f20 : Addr} {od20 an20 : Option Addr} {sl20 : Array (Option Value)} {oc20 kV20 dc20 pm20 cd20 ct20 : Value}
    {f21 : Addr} {od21 an21 : Option Addr} {sl21 : Array (Option Value)} {oc21 kV21 dc21 pm21 cd21 ct21 : Value}
    {f22 : Addr} {od22 an22 : Option Addr} {sl22 : Array (Option Value)} {oc22 kV22 dc22 pm22 cd22 ct22 : Value}
    {f23 : Addr} {od23 an23 : Option Addr} {sl23 : Array (Option Value)} {oc23 kV23 dc23 pm23 cd23 ct23 : Value}
    {f24 : Addr} {od24 an24 : Option Addr} {sl24 : Array (Option Value)} {oc24 kV24 dc24 pm24 cd24 ct24 : Value}
    {f25 : Addr} {od25 an25 : Option Addr} {sl25 : Array (Option Value)} {oc25 kV25 dc25 pm25 cd25 ct25 : Value}
    {f26 : Addr} {od26 an26 : Option Addr} {sl26 : Array (Option Value)} {oc26 kV26 dc26 pm26 cd26 ct26 : Value}
    {f27 : Addr} {od27 an27 : Option Addr} {sl27 : Array (Option Value)} {oc27 kV27 dc27 pm27 cd27 ct27 : Value}
    {f28 : Addr} {od28 an28 : Option Addr} {sl28 : Array (Option Value)} {oc28 kV28 dc28 pm28 cd28 ct28 : Value}
    {f29 : Addr} {od29 an29 : Option Addr} {sl29 : Array (Option Value)} {oc29 kV29 dc29 pm29 cd29 ct29 : Value}
    (a1 : PySem.W.nsIn K mainGlobals "value_key" = some (some (.ref f1)))
    (l1 : K.lookup f1 = some ⟨oc1, od1, .func (PySem.W.fnOf "value_key" "value_key" (defArgs svalue_key) (defBody svalue_key) (defScope svalue_key) .none kV1 dc1 pm1 an1 cd1 ct1), sl1⟩) (c1 : PySem.W.codeIn K cd1 "value_key" = true) (k1 : PySem.W.keepIn K (.ref f1) = true)
    (a2 : PySem.W.nsIn K mainGlobals "row_key" = some (some (.ref f2)))
    (l2 : K.lookup f2 = some ⟨oc2, od2, .func (PySem.W.fnOf "row_key" "row_key" (defArgs srow_key) (defBody srow_key) (defScope srow_key) .none kV2 dc2 pm2 an2 cd2 ct2), sl2⟩) (c2 : PySem.W.codeIn K cd2 "row_key" = true) (k2 : PySem.W.keepIn K (.ref f2) = true)
    (a3 : PySem.W.nsIn K mainGlobals "place_of" = some (some (.ref f3)))
    (l3 : K.lookup f3 = some ⟨oc3, od3, .func (PySem.W.fnOf "place_of" "place_of" (defArgs splace_of) (defBody splace_of) (defScope splace_of) .none kV3 dc3 pm3 an3 cd3 ct3), sl3⟩) (c3 : PySem.W.codeIn K cd3 "place_of" = true) (k3 : PySem.W.keepIn K (.ref f3) = true)
    (a4 : PySem.W.nsIn K mainGlobals "put_fact" = some (some (.ref f4)))
    (l4 : K.lookup f4 = some ⟨oc4, od4, .func (PySem.W.fnOf "put_fact" "put_fact" (defArgs sput_fact) (defBody sput_fact) (defScope sput_fact) .none kV4 dc4 pm4 an4 cd4 ct4), sl4⟩) (c4 : PySem.W.codeIn K cd4 "put_fact" = true) (k4 : PySem.W.keepIn K (.ref f4) = true)
    (a5 : PySem.W.nsIn K mainGlobals "put_item" = some (some (.ref f5)))
    (l5 : K.lookup f5 = some ⟨oc5, od5, .func (PySem.W.fnOf "put_item" "put_item" (defArgs sput_item) (defBody sput_item) (defScope sput_item) .none kV5 dc5 pm5 an5 cd5 ct5), sl5⟩) (c5 : PySem.W.codeIn K cd5 "put_item" = true) (k5 : PySem.W.keepIn K (.ref f5) = true)
    (a6 : PySem.W.nsIn K mainGlobals "write_number" = some (some (.ref f6)))
    (l6 : K.lookup f6 = some ⟨oc6, od6, .func (PySem.W.fnOf "write_number" "write_number" (defArgs swrite_number) (defBody swrite_number) (defScope swrite_number) .none kV6 dc6 pm6 an6 cd6 ct6), sl6⟩) (c6 : PySem.W.codeIn K cd6 "write_number" = true) (k6 : PySem.W.keepIn K (.ref f6) = true)
    (a7 : PySem.W.nsIn K mainGlobals "write_integer" = some (some (.ref f7)))
    (l7 : K.lookup f7 = some ⟨oc7, od7, .func (PySem.W.fnOf "write_integer" "write_integer" (defArgs swrite_integer) (defBody swrite_integer) (defScope swrite_integer) .none kV7 dc7 pm7 an7 cd7 ct7), sl7⟩) (c7 : PySem.W.codeIn K cd7 "write_integer" = true) (k7 : PySem.W.keepIn K (.ref f7) = true)
    (a8 : PySem.W.nsIn K mainGlobals "write_string" = some (some (.ref f8)))
    (l8 : K.lookup f8 = some ⟨oc8, od8, .func (PySem.W.fnOf "write_string" "write_string" (defArgs swrite_string) (defBody swrite_string) (defScope swrite_string) .none kV8 dc8 pm8 an8 cd8 ct8), sl8⟩) (c8 : PySem.W.codeIn K cd8 "write_string" = true) (k8 : PySem.W.keepIn K (.ref f8) = true)
    (a9 : PySem.W.nsIn K mainGlobals "write_value" = some (some (.ref f9)))
    (l9 : K.lookup f9 = some ⟨oc9, od9, .func (PySem.W.fnOf "write_value" "write_value" (defArgs swrite_value) (defBody swrite_value) (defScope swrite_value) .none kV9 dc9 pm9 an9 cd9 ct9), sl9⟩) (c9 : PySem.W.codeIn K cd9 "write_value" = true) (k9 : PySem.W.keepIn K (.ref f9) = true)
    (a10 : PySem.W.nsIn K mainGlobals "write_row" = some (some (.ref f10)))
    (l10 : K.lookup f10 = some ⟨oc10, od10, .func (PySem.W.fnOf "write_row" "write_row" (defArgs swrite_row) (defBody swrite_row) (defScope swrite_row) .none kV10 dc10 pm10 an10 cd10 ct10), sl10⟩) (c10 : PySem.W.codeIn K cd10 "write_row" = true) (k10 : PySem.W.keepIn K (.ref f10) = true)
    (a11 : PySem.W.nsIn K mainGlobals "pack" = some (some (.ref f11)))
    (l11 : K.lookup f11 = some ⟨oc11, od11, .func (PySem.W.fnOf "pack" "pack" (defArgs spack) (defBody spack) (defScope spack) .none kV11 dc11 pm11 an11 cd11 ct11), sl11⟩) (c11 : PySem.W.codeIn K cd11 "pack" = true) (k11 : PySem.W.keepIn K (.ref f11) = true)
    (a12 : PySem.W.nsIn K mainGlobals "filled" = some (some (.ref f12)))
    (l12 : K.lookup f12 = some ⟨oc12, od12, .func (PySem.W.fnOf "filled" "filled" (defArgs sfilled) (defBody sfilled) (defScope sfilled) .none kV12 dc12 pm12 an12 cd12 ct12), sl12⟩) (c12 : PySem.W.codeIn K cd12 "filled" = true) (k12 : PySem.W.keepIn K (.ref f12) = true)
    (a13 : PySem.W.nsIn K mainGlobals "bucket_of_values" = some (some (.ref f13)))
    (l13 : K.lookup f13 = some ⟨oc13, od13, .func (PySem.W.fnOf "bucket_of_values" "bucket_of_values" (defArgs sbucket_of_values) (defBody sbucket_of_values) (defScope sbucket_of_values) .none kV13 dc13 pm13 an13 cd13 ct13), sl13⟩) (c13 : PySem.W.codeIn K cd13 "bucket_of_values" = true) (k13 : PySem.W.keepIn K (.ref f13) = true)
    (a14 : PySem.W.nsIn K mainGlobals "column_places" = some (some (.ref f14)))
    (l14 : K.lookup f14 = some ⟨oc14, od14, .func (PySem.W.fnOf "column_places" "column_places" (defArgs scolumn_places) (defBody scolumn_places) (defScope scolumn_places) .none kV14 dc14 pm14 an14 cd14 ct14), sl14⟩) (c14 : PySem.W.codeIn K cd14 "column_places" = true) (k14 : PySem.W.keepIn K (.ref f14) = true)
    (a15 : PySem.W.nsIn K mainGlobals "bucket" = some (some (.ref f15)))
    (l15 : K.lookup f15 = some ⟨oc15, od15, .func (PySem.W.fnOf "bucket" "bucket" (defArgs sbucket) (defBody sbucket) (defScope sbucket) .none kV15 dc15 pm15 an15 cd15 ct15), sl15⟩) (c15 : PySem.W.codeIn K cd15 "bucket" = true) (k15 : PySem.W.keepIn K (.ref f15) = true)
    (a16 : PySem.W.nsIn K mainGlobals "rows_by_bucket" = some (some (.ref f16)))
    (l16 : K.lookup f16 = some ⟨oc16, od16, .func (PySem.W.fnOf "rows_by_bucket" "rows_by_bucket" (defArgs srows_by_bucket) (defBody srows_by_bucket) (defScope srows_by_bucket) .none kV16 dc16 pm16 an16 cd16 ct16), sl16⟩) (c16 : PySem.W.codeIn K cd16 "rows_by_bucket" = true) (k16 : PySem.W.keepIn K (.ref f16) = true)
    (a17 : PySem.W.nsIn K mainGlobals "relation_shape" = some (some (.ref f17)))
    (l17 : K.lookup f17 = some ⟨oc17, od17, .func (PySem.W.fnOf "relation_shape" "relation_shape" (defArgs srelation_shape) (defBody srelation_shape) (defScope srelation_shape) .none kV17 dc17 pm17 an17 cd17 ct17), sl17⟩) (c17 : PySem.W.codeIn K cd17 "relation_shape" = true) (k17 : PySem.W.keepIn K (.ref f17) = true)
    (a18 : PySem.W.nsIn K mainGlobals "structure_shape" = some (some (.ref f18)))
    (l18 : K.lookup f18 = some ⟨oc18, od18, .func (PySem.W.fnOf "structure_shape" "structure_shape" (defArgs sstructure_shape) (defBody sstructure_shape) (defScope sstructure_shape) .none kV18 dc18 pm18 an18 cd18 ct18), sl18⟩) (c18 : PySem.W.codeIn K cd18 "structure_shape" = true) (k18 : PySem.W.keepIn K (.ref f18) = true)
    (a19 : PySem.W.nsIn K mainGlobals "used_counts" = some (some (.ref f19)))
    (l19 : K.lookup f19 = some ⟨oc19, od19, .func (PySem.W.fnOf "used_counts" "used_counts" (defArgs sused_counts) (defBody sused_counts) (defScope sused_counts) .none kV19 dc19 pm19 an19 cd19 ct19), sl19⟩) (c19 : PySem.W.codeIn K cd19 "used_counts" = true) (k19 : PySem.W.keepIn K (.ref f19) = true)
    (a20 : PySem.W.nsIn K mainGlobals "bucket_room" = some (some (.ref f20)))
    (l20 : K.lookup f20 = some ⟨oc20, od20, .func (PySem.W.fnOf "bucket_room" "bucket_room" (defArgs sbucket_room) (defBody sbucket_room) (defScope sbucket_room) .none kV20 dc20 pm20 an20 cd20 ct20), sl20⟩) (c20 : PySem.W.codeIn K cd20 "bucket_room" = true) (k20 : PySem.W.keepIn K (.ref f20) = true)
    (a21 : PySem.W.nsIn K mainGlobals "read_sectors" = some (some (.ref f21)))
    (l21 : K.lookup f21 = some ⟨oc21, od21, .func (PySem.W.fnOf "read_sectors" "read_sectors" (defArgs sread_sectors) (defBody sread_sectors) (defScope sread_sectors) .none kV21 dc21 pm21 an21 cd21 ct21), sl21⟩) (c21 : PySem.W.codeIn K cd21 "read_sectors" = true) (k21 : PySem.W.keepIn K (.ref f21) = true)
    (a22 : PySem.W.nsIn K mainGlobals "all_read" = some (some (.ref f22)))
    (l22 : K.lookup f22 = some ⟨oc22, od22, .func (PySem.W.fnOf "all_read" "all_read" (defArgs sall_read) (defBody sall_read) (defScope sall_read) .none kV22 dc22 pm22 an22 cd22 ct22), sl22⟩) (c22 : PySem.W.codeIn K cd22 "all_read" = true) (k22 : PySem.W.keepIn K (.ref f22) = true)
    (a23 : PySem.W.nsIn K mainGlobals "_law_draw" = some (some (.ref f23)))
    (l23 : K.lookup f23 = some ⟨oc23, od23, .func (PySem.W.fnOf "_law_draw" "_law_draw" (defArgs s_law_draw) (defBody s_law_draw) (defScope s_law_draw) .none kV23 dc23 pm23 an23 cd23 ct23), sl23⟩) (c23 : PySem.W.codeIn K cd23 "_law_draw" = true) (k23 : PySem.W.keepIn K (.ref f23) = true)
    (a24 : PySem.W.nsIn K mainGlobals "_law_value" = some (some (.ref f24)))
    (l24 : K.lookup f24 = some ⟨oc24, od24, .func (PySem.W.fnOf "_law_value" "_law_value" (defArgs s_law_value) (defBody s_law_value) (defScope s_law_value) .none kV24 dc24 pm24 an24 cd24 ct24), sl24⟩) (c24 : PySem.W.codeIn K cd24 "_law_value" = true) (k24 : PySem.W.keepIn K (.ref f24) = true)
    (a25 : PySem.W.nsIn K mainGlobals "_law_state" = some (some (.ref f25)))
    (l25 : K.lookup f25 = some ⟨oc25, od25, .func (PySem.W.fnOf "_law_state" "_law_state" (defArgs s_law_state) (defBody s_law_state) (defScope s_law_state) .none kV25 dc25 pm25 an25 cd25 ct25), sl25⟩) (c25 : PySem.W.codeIn K cd25 "_law_state" = true) (k25 : PySem.W.keepIn K (.ref f25) = true)
    (a26 : PySem.W.nsIn K mainGlobals "_law_call" = some (some (.ref f26)))
    (l26 : K.lookup f26 = some ⟨oc26, od26, .func (PySem.W.fnOf "_law_call" "_law_call" (defArgs s_law_call) (defBody s_law_call) (defScope s_law_call) .none kV26 dc26 pm26 an26 cd26 ct26), sl26⟩) (c26 : PySem.W.codeIn K cd26 "_law_call" = true) (k26 : PySem.W.keepIn K (.ref f26) = true)
    (a27 : PySem.W.nsIn K mainGlobals "_law_ways" = some (some (.ref f27)))
    (l27 : K.lookup f27 = some ⟨oc27, od27, .func (PySem.W.fnOf "_law_ways" "_law_ways" (defArgs s_law_ways) (defBody s_law_ways) (defScope s_law_ways) .none kV27 dc27 pm27 an27 cd27 ct27), sl27⟩) (c27 : PySem.W.codeIn K cd27 "_law_ways" = true) (k27 : PySem.W.keepIn K (.ref f27) = true)
    (a28 : PySem.W.nsIn K mainGlobals "_law_read" = some (some (.ref f28)))
    (l28 : K.lookup f28 = some ⟨oc28, od28, .func (PySem.W.fnOf "_law_read" "_law_read" (defArgs s_law_read) (defBody s_law_read) (defScope s_law_read) .none kV28 dc28 pm28 an28 cd28 ct28), sl28⟩) (c28 : PySem.W.codeIn K cd28 "_law_read" = true) (k28 : PySem.W.keepIn K (.ref f28) = true)
    (a29 : PySem.W.nsIn K mainGlobals "law" = some (some (.ref f29)))
    (l29 : K.lookup f29 = some ⟨oc29, od29, .func (PySem.W.fnOf "law" "law" (defArgs slaw) (defBody slaw) (defScope slaw) .none kV29 dc29 pm29 an29 cd29 ct29), sl29⟩) (c29 : PySem.W.codeIn K cd29 "law" = true) (k29 : PySem.W.keepIn K (.ref f29) = true)
    (zrep : PySem.W.nsIn K mainGlobals "repr" = some none) (zzip : PySem.W.nsIn K mainGlobals "zip" = some none)
    {tS : Tok} (aS : PySem.W.nsIn K mainGlobals "SECTOR_BYTES" = some (some (.int 64 tS)))
    {CR : Addr} (qC : PySem.W.nsIn K mainGlobals "Request" = some (some (.ref CR))) (qpg : PySem.W.plainGet K CR Str.empty = true) (qhd : PySem.W.hasDictIn K CR = true) (qpo : PySem.W.plainOver K CR = true) (qsa : PySem.W.findIn K (.ref CR) "__setattr__" = some (some (.builtin "object.__setattr__"))) (qmk : PySem.W.makesIn K CR = true) (qkc : PySem.W.keepIn K (.ref CR) = true)
    (qn1 : PySem.W.findIn K (.ref CR) "before" = some none) (qn2 : PySem.W.findIn K (.ref CR) "after" = some none) (qn3 : PySem.W.findIn K (.ref CR) "calls" = some none) (qn4 : PySem.W.findIn K (.ref CR) "used" = some none) (qn5 : PySem.W.findIn K (.ref CR) "reads" = some none) (qn6 : PySem.W.findIn K (.ref CR) "changed" = some none)
    {fQI : Addr} {odQI anQI : Option Addr} {slQI : Array (Option Value)} {ocQI kVQI dcQI pmQI cdQI ctQI : Value}
    (aQI : PySem.W.findIn K (.ref CR) "__init__" = some (some (.ref fQI))) (iQI : PySem.W.isFn K (.ref fQI) = true)
    (lQI : K.lookup fQI = some ⟨ocQI, odQI, .func (PySem.W.fnOf "__init__" "Request.__init__" (defArgs sRequest_init) (defBody sRequest_init) (defScope sRequest_init) .none kVQI dcQI pmQI anQI cdQI ctQI), slQI⟩) (cQI : PySem.W.codeIn K cdQI "Request.__init__" = true) (kQI : PySem.W.keepIn K (.ref fQI) = true)
    {fQB : Addr} {odQB anQB : Option Addr} {slQB : Array (Option Value)} {ocQB kVQB dcQB pmQB cdQB ctQB : Value}
    (aQB : PySem.W.findIn K (.ref CR) "bucket_sectors" = some (some (.ref fQB))) (iQB : PySem.W.isFn K (.ref fQB) = true)
    (lQB : K.lookup fQB = some ⟨ocQB, odQB, .func (PySem.W.fnOf "bucket_sectors" "Request.bucket_sectors" (defArgs sRequest_bucket_sectors) (defBody sRequest_bucket_sectors) (defScope sRequest_bucket_sectors) .none kVQB dcQB pmQB anQB cdQB ctQB), slQB⟩) (cQB : PySem.W.codeIn K cdQB "Request.bucket_sectors" = true) (kQB : PySem.W.keepIn K (.ref fQB) = true)
    {fQN : Addr} {odQN anQN : Option Addr} {slQN : Array (Option Value)} {ocQN kVQN dcQN pmQN cdQN ctQN : Value}
    (aQN : PySem.W.findIn K (.ref CR) "in_structure" = some (some (.ref fQN))) (iQN : PySem.W.isFn K (.ref fQN) = true)
    (lQN : K.lookup fQN = some ⟨ocQN, odQN, .func (PySem.W.fnOf "in_structure" "Request.in_structure" (defArgs sRequest_in_structure) (defBody sRequest_in_structure) (defScope sRequest_in_structure) .none kVQN dcQN pmQN anQN cdQN ctQN), slQN⟩) (cQN : PySem.W.codeIn K cdQN "Request.in_structure" = true) (kQN : PySem.W.keepIn K (.ref fQN) = true)
    {fQF : Addr} {odQF anQF : Option Addr} {slQF : Array (Option Value)} {ocQF kVQF dcQF pmQF cdQF ctQF : Value}
    (aQF : PySem.W.findIn K (.ref CR) "found_in_structure" = some (some (.ref fQF))) (iQF : PySem.W.isFn K (.ref fQF) = true)
    (lQF : K.lookup fQF = some ⟨ocQF, odQF, .func (PySem.W.fnOf "found_in_structure" "Request.found_in_structure" (defArgs sRequest_found_in_structure) (defBody sRequest_found_in_structure) (defScope sRequest_found_in_structure) .none kVQF dcQF pmQF anQF cdQF ctQF), slQF⟩) (cQF : PySem.W.codeIn K cdQF "Request.found_in_structure" = true) (kQF : PySem.W.keepIn K (.ref fQF) = true)
    {fQC : Addr} {odQC anQC : Option Addr} {slQC : Array (Option Value)} {ocQC kVQC dcQC pmQC cdQC ctQC : Value}
    (aQC : PySem.W.findIn K (.ref CR) "call_sectors" = some (some (.ref fQC))) (iQC : PySem.W.isFn K (.ref fQC) = true)
    (lQC : K.lookup fQC = some ⟨ocQC, odQC, .func (PySem.W.fnOf "call_sectors" "Request.call_sectors" (defArgs sRequest_call_sectors) (defBody sRequest_call_sectors) (defScope sRequest_call_sectors) .none kVQC dcQC pmQC anQC cdQC ctQC), slQC⟩) (cQC : PySem.W.codeIn K cdQC "Request.call_sectors" = true) (kQC : PySem.W.keepIn K (.ref fQC) = true)
    {fQR : Addr} {odQR anQR : Option Addr} {slQR : Array (Option Value)} {ocQR kVQR dcQR pmQR cdQR ctQR : Value}
    (aQR : PySem.W.findIn K (.ref CR) "sectors_read" = some (some (.ref fQR))) (iQR : PySem.W.isFn K (.ref fQR) = true)
    (lQR : K.lookup fQR = some ⟨ocQR, odQR, .func (PySem.W.fnOf "sectors_read" "Request.sectors_read" (defArgs sRequest_sectors_read) (defBody sRequest_sectors_read) (defScope sRequest_sectors_read) .none kVQR dcQR pmQR anQR cdQR ctQR), slQR⟩) (cQR : PySem.W.codeIn K cdQR "Request.sectors_read" = true) (kQR : PySem.W.keepIn K (.ref fQR) = true)
    {C fI TT A0 : Addr} {odI anI odT : Option Addr} {slI slT slA : Array (Option Value)} {ocI kVI dcI pmI cdI ctI ocT : Value} {nT nA : Nat}
    (aC : PySem.W.nsIn K mainGlobals "State" = some (some (.ref C)))
    (aI : PySem.W.findIn K (.ref C) "__init__" = some (some (.ref fI))) (iI : PySem.W.isFn K (.ref fI) = true)
    (lI : K.lookup fI = some ⟨ocI, odI, .func (PySem.W.fnOf "__init__" "State.__init__" (defArgs sInit) (defBody sInit) (defScope sInit) (.ref TT) kVI dcI pmI anI cdI ctI), slI⟩) (cI : PySem.W.codeIn K cdI "State.__init__" = true) (kI : PySem.W.keepIn K (.ref fI) = true)
    (lT : K.lookup TT = some ⟨ocT, odT, .seq #[.ref A0] nT, slT⟩) (lA : K.lookup A0 = some ⟨.type "tuple", none, .seq #[] nA, slA⟩)
    (pg : PySem.W.plainGet K C Str.empty = true) (hd : PySem.W.hasDictIn K C = true) (po : PySem.W.plainOver K C = true) (sa : PySem.W.findIn K (.ref C) "__setattr__" = some (some (.builtin "object.__setattr__"))) (mk : PySem.W.makesIn K C = true) (kc : PySem.W.keepIn K (.ref C) = true)
    (nR : PySem.W.findIn K (.ref C) "relations" = some none) (nF : PySem.W.findIn K (.ref C) "facts" = some none) (nS : PySem.W.findIn K (.ref C) "structures" = some none) (nL : PySem.W.findIn K (.ref C) "layouts" = some none)
    {fMA : Addr} {odMA anMA : Option Addr} {slMA : Array (Option Value)} {ocMA kVMA dcMA pmMA cdMA ctMA : Value}
    (aMA : PySem.W.findIn K (.ref C) "all_items" = some (some (.ref fMA))) (iMA : PySem.W.isFn K (.ref fMA) = true)
    (lMA : K.lookup fMA = some ⟨ocMA, odMA, .func (PySem.W.fnOf "all_items" "State.all_items" (defArgs sAll) (defBody sAll) (defScope sAll) .none kVMA dcMA pmMA anMA cdMA ctMA), slMA⟩) (cMA : PySem.W.codeIn K cdMA "State.all_items" = true) (kMA : PySem.W.keepIn K (.ref fMA) = true)
    (z1 : PySem.W.nsIn K mainGlobals "range" = some none) (z2 : PySem.W.nsIn K mainGlobals "len" = some none) (z3 : PySem.W.nsIn K mainGlobals "int" = some none) (z4 : PySem.W.nsIn K mainGlobals "str" = some none) (z5 : PySem.W.nsIn K mainGlobals "bool" = some none) (z6 : PySem.W.nsIn K mainGlobals "list" = some none) (z7 : PySem.W.nsIn K mainGlobals "tuple" = some none) (z8 : PySem.W.nsIn K mainGlobals "dict" = some none) (z9 : PySem.W.nsIn K mainGlobals "isinstance" = some none) (z10 : PySem.W.nsIn K mainGlobals "min" = some none) (z11 : PySem.W.nsIn K mainGlobals "sum" = some none) (z12 : PySem.W.nsIn K mainGlobals "sorted" = some none) (z13 : PySem.W.nsIn K mainGlobals "abs" = some none) (z14 : PySem.W.nsIn K mainGlobals "ord" = some none) :
    ∃ fd : FuncData, (∀ (s : Shared) (v : Value), BindsTo s fd ⟨[v], []⟩ [("script", v)]) ∧ ∀ base : Heap, K.In base → base.Ns mainGlobals mg → TopOk l.prog w K mg base fa fd ["script"] (spLaw K) := by
  have e := hfa.symm.trans (PySem.W.mg_of X G a29)
  cases e
  have F1 := fun_mk (st := svalue_key) l1 c1 k1
  have b1 := F1.binds (ps := ["value"]) fun _ _ _ _ _ _ us hl => match us, hl with | [_], _ => rfl
  have g1 := PySem.W.mg_of X G a1
  have F2 := fun_mk (st := srow_key) l2 c2 k2
  have b2 := F2.binds (ps := ["row"]) fun _ _ _ _ _ _ us hl => match us, hl with | [_], _ => rfl
  have g2 := PySem.W.mg_of X G a2
  have F3 := fun_mk (st := splace_of) l3 c3 k3
  have b3 := F3.binds (ps := ["rows", "row"]) fun _ _ _ _ _ _ us hl => match us, hl with | [_, _], _ => rfl
  have g3 := PySem.W.mg_of X G a3
  have F4 := fun_mk (st := sput_fact) l4 c4 k4
  have b4 := F4.binds (ps := ["state", "name", "row"]) fun _ _ _ _ _ _ us hl => match us, hl with | [_, _, _], _ => rfl
  have g4 := PySem.W.mg_of X G a4
  have F5 := fun_mk (st := sput_item) l5 c5 k5
  have b5 := F5.binds (ps := ["state", "item"]) fun _ _ _ _ _ _ us hl => match us, hl with | [_, _], _ => rfl
  have g5 := PySem.W.mg_of X G a5
  have F6 := fun_mk (st := swrite_number) l6 c6 k6
  have b6 := F6.binds (ps := ["number"]) fun _ _ _ _ _ _ us hl => match us, hl with | [_], _ => rfl
  have g6 := PySem.W.mg_of X G a6
  have F7 := fun_mk (st := swrite_integer) l7 c7 k7
  have b7 := F7.binds (ps := ["number"]) fun _ _ _ _ _ _ us hl => match us, hl with | [_], _ => rfl
  have g7 := PySem.W.mg_of X G a7
  have F8 := fun_mk (st := swrite_string) l8 c8 k8
  have b8 := F8.binds (ps := ["text"]) fun _ _ _ _ _ _ us hl => match us, hl with | [_], _ => rfl
  have g8 := PySem.W.mg_of X G a8
  have F9 := fun_mk (st := swrite_value) l9 c9 k9
  have b9 := F9.binds (ps := ["value"]) fun _ _ _ _ _ _ us hl => match us, hl with | [_], _ => rfl
  have g9 := PySem.W.mg_of X G a9
  have F10 := fun_mk (st := swrite_row) l10 c10 k10
  have b10 := F10.binds (ps := ["row"]) fun _ _ _ _ _ _ us hl => match us, hl with | [_], _ => rfl
  have g10 := PySem.W.mg_of X G a10
  have F11 := fun_mk (st := spack) l11 c11 k11
  have b11 := F11.binds (ps := ["rows"]) fun _ _ _ _ _ _ us hl => match us, hl with | [_], _ => rfl
  have g11 := PySem.W.mg_of X G a11
  have F12 := fun_mk (st := sfilled) l12 c12 k12
  have b12 := F12.binds (ps := ["rows", "room"]) fun _ _ _ _ _ _ us hl => match us, hl with | [_, _], _ => rfl
  have g12 := PySem.W.mg_of X G a12
  have F13 := fun_mk (st := sbucket_of_values) l13 c13 k13
  have b13 := F13.binds (ps := ["values", "buckets"]) fun _ _ _ _ _ _ us hl => match us, hl with | [_, _], _ => rfl
  have g13 := PySem.W.mg_of X G a13
  have F14 := fun_mk (st := scolumn_places) l14 c14 k14
  have b14 := F14.binds (ps := ["state", "structure"]) fun _ _ _ _ _ _ us hl => match us, hl with | [_, _], _ => rfl
  have g14 := PySem.W.mg_of X G a14
  have F15 := fun_mk (st := sbucket) l15 c15 k15
  have b15 := F15.binds (ps := ["state", "structure", "row"]) fun _ _ _ _ _ _ us hl => match us, hl with | [_, _, _], _ => rfl
  have g15 := PySem.W.mg_of X G a15
  have F16 := fun_mk (st := srows_by_bucket) l16 c16 k16
  have b16 := F16.binds (ps := ["state", "structure"]) fun _ _ _ _ _ _ us hl => match us, hl with | [_, _], _ => rfl
  have g16 := PySem.W.mg_of X G a16
  have F17 := fun_mk (st := srelation_shape) l17 c17 k17
  have b17 := F17.binds (ps := ["state", "name"]) fun _ _ _ _ _ _ us hl => match us, hl with | [_, _], _ => rfl
  have g17 := PySem.W.mg_of X G a17
  have F18 := fun_mk (st := sstructure_shape) l18 c18 k18
  have b18 := F18.binds (ps := ["state", "name"]) fun _ _ _ _ _ _ us hl => match us, hl with | [_, _], _ => rfl
  have g18 := PySem.W.mg_of X G a18
  have F19 := fun_mk (st := sused_counts) l19 c19 k19
  have b19 := F19.binds (ps := ["state", "name"]) fun _ _ _ _ _ _ us hl => match us, hl with | [_, _], _ => rfl
  have g19 := PySem.W.mg_of X G a19
  have F20 := fun_mk (st := sbucket_room) l20 c20 k20
  have b20 := F20.binds (ps := ["state", "name"]) fun _ _ _ _ _ _ us hl => match us, hl with | [_, _], _ => rfl
  have g20 := PySem.W.mg_of X G a20
  have F21 := fun_mk (st := sread_sectors) l21 c21 k21
  have b21 := F21.binds (ps := ["state", "layout", "call"]) fun _ _ _ _ _ _ us hl => match us, hl with | [_, _, _], _ => rfl
  have g21 := PySem.W.mg_of X G a21
  have F22 := fun_mk (st := sall_read) l22 c22 k22
  have b22 := F22.binds (ps := ["state", "layout", "calls"]) fun _ _ _ _ _ _ us hl => match us, hl with | [_, _, _], _ => rfl
  have g22 := PySem.W.mg_of X G a22
  have F23 := fun_mk (st := s_law_draw) l23 c23 k23
  have b23 := F23.binds (ps := ["script", "k"]) fun _ _ _ _ _ _ us hl => match us, hl with | [_, _], _ => rfl
  have g23 := PySem.W.mg_of X G a23
  have F24 := fun_mk (st := s_law_value) l24 c24 k24
  have b24 := F24.binds (ps := ["number"]) fun _ _ _ _ _ _ us hl => match us, hl with | [_], _ => rfl
  have g24 := PySem.W.mg_of X G a24
  have F25 := fun_mk (st := s_law_state) l25 c25 k25
  have b25 := F25.binds (ps := ["script", "start"]) fun _ _ _ _ _ _ us hl => match us, hl with | [_, _], _ => rfl
  have g25 := PySem.W.mg_of X G a25
  have F26 := fun_mk (st := s_law_call) l26 c26 k26
  have b26 := F26.binds (ps := ["number"]) fun _ _ _ _ _ _ us hl => match us, hl with | [_], _ => rfl
  have g26 := PySem.W.mg_of X G a26
  have F27 := fun_mk (st := s_law_ways) l27 c27 k27
  have b27 := F27.binds (ps := ["state", "layout", "call"]) fun _ _ _ _ _ _ us hl => match us, hl with | [_, _, _], _ => rfl
  have g27 := PySem.W.mg_of X G a27
  have F28 := fun_mk (st := s_law_read) l28 c28 k28
  have b28 := F28.binds (ps := ["state", "layout", "call"]) fun _ _ _ _ _ _ us hl => match us, hl with | [_, _, _], _ => rfl
  have g28 := PySem.W.mg_of X G a28
  have F29 := fun_mk (st := slaw) l29 c29 k29
  have T : Bl mg := ⟨PySem.W.mg_none_of X G z1, PySem.W.mg_none_of X G z2, PySem.W.mg_none_of X G z3, PySem.W.mg_none_of X G z4, PySem.W.mg_none_of X G z5, PySem.W.mg_none_of X G z6, PySem.W.mg_none_of X G z7, PySem.W.mg_none_of X G z8, PySem.W.mg_none_of X G z9, PySem.W.mg_none_of X G z10, PySem.W.mg_none_of X G z11, PySem.W.mg_none_of X G z12, PySem.W.mg_none_of X G z13, PySem.W.mg_none_of X G z14⟩
  have hrep := PySem.W.mg_none_of X G zrep
  have hzip := PySem.W.mg_none_of X G zzip
  have B : Sb mg := ⟨⟨tS, PySem.W.mg_of X G aS⟩⟩
  have XQ : TxtQ K mg CR := ⟨⟨qpg, qhd, qpo, qsa⟩, qn1, qn2, qn3, qn4, qn5, qn6, PySem.W.mg_of X G qC⟩
  have FQI := fun_mk (st := sRequest_init) lQI cQI kQI
  have bQI := FQI.binds (ps := ["self", "before", "after", "calls"]) fun _ _ _ _ _ _ us hl => match us, hl with | [_, _, _, _], _ => rfl
  have mQI : Mk K CR fQI := ⟨qmk, aQI, iQI, qkc⟩
  have FQB := fun_mk (st := sRequest_bucket_sectors) lQB cQB kQB
  have bQB := FQB.binds (ps := ["self", "name", "number"]) fun _ _ _ _ _ _ us hl => match us, hl with | [_, _, _], _ => rfl
  have mQB : Meth K CR "bucket_sectors" fQB := ⟨aQB, iQB, kQB⟩
  have FQN := fun_mk (st := sRequest_in_structure) lQN cQN kQN
  have bQN := FQN.binds (ps := ["self", "structure", "call"]) fun _ _ _ _ _ _ us hl => match us, hl with | [_, _, _], _ => rfl
  have mQN : Meth K CR "in_structure" fQN := ⟨aQN, iQN, kQN⟩
  have FQF := fun_mk (st := sRequest_found_in_structure) lQF cQF kQF
  have bQF := FQF.binds (ps := ["self", "structure", "call"]) fun _ _ _ _ _ _ us hl => match us, hl with | [_, _, _], _ => rfl
  have mQF : Meth K CR "found_in_structure" fQF := ⟨aQF, iQF, kQF⟩
  have FQC := fun_mk (st := sRequest_call_sectors) lQC cQC kQC
  have bQC := FQC.binds (ps := ["self", "layout", "call"]) fun _ _ _ _ _ _ us hl => match us, hl with | [_, _, _], _ => rfl
  have mQC : Meth K CR "call_sectors" fQC := ⟨aQC, iQC, kQC⟩
  have FQR := fun_mk (st := sRequest_sectors_read) lQR cQR kQR
  have bQR := FQR.binds (ps := ["self", "layout"]) fun _ _ _ _ _ _ us hl => match us, hl with | [_, _], _ => rfl
  have mQR : Meth K CR "sectors_read" fQR := ⟨aQR, iQR, kQR⟩
  have X : Txt K mg C := ⟨⟨pg, hd, po, sa⟩, nR, nF, nS, nL, PySem.W.mg_of X G aC⟩
  have FI : FunD K "__init__" "State.__init__" (defArgs sInit) (defBody sInit) (defScope sInit) [V.ref A0] [] fI (PySem.W.fnOf "__init__" "State.__init__" (defArgs sInit) (defBody sInit) (defScope sInit) (.ref TT) kVI dcI pmI anI cdI ctI) :=
    ⟨⟨ocI, odI, .ref TT, kVI, dcI, pmI, anI, cdI, ctI, slI, rfl, lI, cI, .inr ⟨by simp, TT, _, [.ref A0], nT, rfl, lT, rfl, .cons rfl .nil⟩, .inl rfl⟩, kI⟩
  obtain ⟨d1, v1, bI⟩ := FI.binds1 (ps := ["self", "items"]) 2 1 (by simp) rfl fun T kV doc pm an cdv ct us its hu hi => match us, its, hu, hi with | [_, _], [_], _, _ => ⟨_, rfl, rfl⟩
  obtain ⟨d0, v0, bI0⟩ := FI.binds1 (ps := ["self", "items"]) 1 0 (by simp) rfl fun T kV doc pm an cdv ct us its hu hi => match us, its, hu, hi with | [_], [_], _, _ => ⟨_, rfl, rfl⟩
  have e1 : d1 = [] := by cases v1; rfl
  subst e1
  have hA0 : ∀ H : Hp, SqT K H A0 [] := fun H => .inr ⟨_, #[], nA, lA, rfl, rfl, Nat.zero_le _, .nil⟩
  have FMA := fun_mk (st := sAll) lMA cMA kMA
  have bMA := FMA.binds (ps := ["self"]) fun _ _ _ _ _ _ us hl => match us, hl with | [_], _ => rfl
  have mMA : Meth K C "all_items" fMA := ⟨aMA, iMA, kMA⟩
  refine ⟨PySem.W.fnOf "law" "law" (defArgs slaw) (defBody slaw) (defScope slaw) .none kV29 dc29 pm29 an29 cd29 ct29, fun s v => .of_eq rfl, fun base _ _ => ?_⟩
  have Dvalue_key : Kn l.prog w K mg base 1 "value_key" ["value"] (spVKey K) := kn_of F1 g1 b1 (ok_vkey F1 T)
  have Drow_key : Kn l.prog w K mg base 2 "row_key" ["row"] (spRKey K) := kn_of F2 g2 b2 (ok_rkey F2 T Dvalue_key)
  have Dplace_of : Kn l.prog w K mg base 3 "place_of" ["rows", "row"] (spPlace K) := kn_of F3 g3 b3 (ok_place F3 T Drow_key)
  have Dput_fact : Kn l.prog w K mg base 4 "put_fact" ["state", "name", "row"] (spPutFact K C) := kn_of F4 g4 b4 (ok_putfact F4 T X Dplace_of)
  have Dput_item : Kn l.prog w K mg base 5 "put_item" ["state", "item"] (spPutItem K C) := kn_of F5 g5 b5 (ok_putitem F5 T X Dput_fact)
  have St : Sta l.prog w K mg base C := ⟨fI, _, A0, d0, ⟨mk, aI, iI, kc⟩, ok_init FI X Dput_item, ok_init0 FI X Dput_item, bI, bI0, v0, hA0⟩
  have Sall : Kmt l.prog w K mg base C 1 "all_items" ["self"] (spAll K C) := ⟨⟨_, _, mMA, ok_all FMA T X, bMA⟩, X.cl⟩
  have Dwrite_number : Kn l.prog w K mg base 1 "write_number" ["number"] (spNumber) := kn_of F6 g6 b6 (ok_number F6 T)
  have Dwrite_integer : Kn l.prog w K mg base 2 "write_integer" ["number"] (spInteger) := kn_of F7 g7 b7 (ok_integer F7 T Dwrite_number)
  have Dwrite_string : Kn l.prog w K mg base 2 "write_string" ["text"] (spString) := kn_of F8 g8 b8 (ok_string F8 T Dwrite_number)
  have Dwrite_value : Kn l.prog w K mg base 3 "write_value" ["value"] (spVB) := kn_of F9 g9 b9 (ok_wvalue F9 T Dwrite_string Dwrite_integer)
  have Dwrite_row : Kn l.prog w K mg base 4 "write_row" ["row"] (spRB K) := kn_of F10 g10 b10 (ok_wrow F10 T Dwrite_number Dwrite_value)
  have Dpack : Kn l.prog w K mg base 5 "pack" ["rows"] (spPack K) := kn_of F11 g11 b11 (ok_pack F11 T B Dwrite_row)
  have Dfilled : Kn l.prog w K mg base 6 "filled" ["rows", "room"] (spFilled K) := kn_of F12 g12 b12 (ok_filled F12 T B Dpack)
  have Dbucket_of_values : Kn l.prog w K mg base 5 "bucket_of_values" ["values", "buckets"] (spBuck K) := kn_of F13 g13 b13 (ok_buck F13 T Dwrite_row)
  have Dcolumn_places : Kn l.prog w K mg base 1 "column_places" ["state", "structure"] (spColPl K C) := kn_of F14 g14 b14 (ok_colpl F14 X)
  have Dbucket : Kn l.prog w K mg base 6 "bucket" ["state", "structure", "row"] (spBucket K C) := kn_of F15 g15 b15 (ok_bucket F15 T X Dcolumn_places Dbucket_of_values)
  have Drows_by_bucket : Kn l.prog w K mg base 7 "rows_by_bucket" ["state", "structure"] (spRBB K C) := kn_of F16 g16 b16 (ok_rbb F16 T X Dbucket)
  have Drelation_shape : Kn l.prog w K mg base 7 "relation_shape" ["state", "name"] (spRelSh K C) := kn_of F17 g17 b17 (ok_relsh F17 X Dfilled)
  have Dstructure_shape : Kn l.prog w K mg base 8 "structure_shape" ["state", "name"] (spStrSh K C) := kn_of F18 g18 b18 (ok_strsh F18 X Drows_by_bucket Dfilled)
  have Dused_counts : Kn l.prog w K mg base 8 "used_counts" ["state", "name"] (spUsed K C) := kn_of F19 g19 b19 (ok_used F19 T X Dpack Drows_by_bucket)
  have Dbucket_room : Kn l.prog w K mg base 1 "bucket_room" ["state", "name"] (spBRoom K C) := kn_of F20 g20 b20 (ok_broom F20 X)
  have DRequest : Kmk l.prog w K mg base CR 1 ["self", "before", "after", "calls"] (spQInit l.prog w K C CR) := ⟨⟨_, _, mQI, ok_qinit FQI T XQ, bQI⟩⟩
  have Qbsec : Kmt l.prog w K mg base CR 9 "bucket_sectors" ["self", "name", "number"] (spBsec l.prog w K C CR) := ⟨⟨_, _, mQB, ok_bsec FQB T XQ Dused_counts Dbucket_room, bQB⟩, XQ.cl⟩
  have Qins : Kmt l.prog w K mg base CR 10 "in_structure" ["self", "structure", "call"] (spIns l.prog w K C CR) := ⟨⟨_, _, mQN, ok_ins FQN T X XQ Dcolumn_places Dbucket_of_values Qbsec, bQN⟩, XQ.cl⟩
  have Qfound : Kmt l.prog w K mg base CR 11 "found_in_structure" ["self", "structure", "call"] (spFound l.prog w K C CR) := ⟨⟨_, _, mQF, ok_found FQF T XQ Qins, bQF⟩, XQ.cl⟩
  have Qcall : Kmt l.prog w K mg base CR 12 "call_sectors" ["self", "layout", "call"] (spCallS l.prog w K C CR) := ⟨⟨_, _, mQC, ok_calls FQC T X XQ Qbsec Qfound, bQC⟩, XQ.cl⟩
  have Qread : Kmt l.prog w K mg base CR 13 "sectors_read" ["self", "layout"] (spSRead l.prog w K C CR) := ⟨⟨_, _, mQR, ok_sread FQR T XQ Qcall, bQR⟩, XQ.cl⟩
  have Dread_sectors : Kn l.prog w K mg base 14 "read_sectors" ["state", "layout", "call"] (spRdSec K C) := kn_of F21 g21 b21 (ok_rdsec F21 T XQ.mgC DRequest Qread)
  have Dall_read : Kn l.prog w K mg base 14 "all_read" ["state", "layout", "calls"] (spAllRd K C) := kn_of F22 g22 b22 (ok_allrd F22 T XQ.mgC DRequest Qread)
  have D_law_draw : Kn l.prog w K mg base 1 "_law_draw" ["script", "k"] (spDraw K) := kn_of F23 g23 b23 (ok_draw F23 T)
  have D_law_value : Kn l.prog w K mg base 1 "_law_value" ["number"] (spLValue) := kn_of F24 g24 b24 (ok_lvalue F24 T)
  have D_law_state : Kn l.prog w K mg base 8 "_law_state" ["script", "start"] (spState K C) := kn_of F25 g25 b25 (ok_state F25 T X St D_law_draw D_law_value)
  have D_law_call : Kn l.prog w K mg base 2 "_law_call" ["number"] (spLCall K) := kn_of F26 g26 b26 (ok_lcall F26 T D_law_value)
  have D_law_ways : Kn l.prog w K mg base 7 "_law_ways" ["state", "layout", "call"] (spWays K C) := kn_of F27 g27 b27 (ok_ways F27 T X Dpack Dbucket_of_values Dbucket)
  have D_law_read : Kn l.prog w K mg base 15 "_law_read" ["state", "layout", "call"] (spLRead K C) := kn_of F28 g28 b28 (ok_lread F28 T hzip hrep X D_law_ways Dread_sectors Drelation_shape Dstructure_shape)
  exact ok_law F29 T hrep X Sall D_law_state D_law_draw D_law_call D_law_read Dall_read Dread_sectors
end K1
open PySem PySem.W PyProof.Rows
set_option maxHeartbeats 0 in
theorem PySem.Challenge.cw_turnshelves_k40_reading_is_enough_holds : PySem.Challenge.rw_turnshelves_k40_reading_is_enough.Holds := by
  w_on; o_law; k_head; (case hw => w_witness2)
  k_fill
  refine Ow.top_walk (l := PySem.Challenge.rw_turnshelves_k40_reading_is_enough) (n := 63) (x := "script") (sp := fun w => K1.spLaw _) rfl (by decide) rfl (fun w h Y => PySem.W.kIn_of Y) ?F (fun _ _ a ns hl _ hS => ⟨a, ns, rfl, hS, hl, fun _ => rfl⟩)
  case F =>
    intro w mg fa h KX G hmg
    refine' K1.all_mk KX G hmg ?a1 ?l1 ?c1 ?k1 ?a2 ?l2 ?c2 ?k2 ?a3 ?l3 ?c3 ?k3 ?a4 ?l4 ?c4 ?k4 ?a5 ?l5 ?c5 ?k5 ?a6 ?l6 ?c6 ?k6 ?a7 ?l7 ?c7 ?k7 ?a8 ?l8 ?c8 ?k8 ?a9 ?l9 ?c9 ?k9 ?a10 ?l10 ?c10 ?k10 ?a11 ?l11 ?c11 ?k11 ?a12 ?l12 ?c12 ?k12 ?a13 ?l13 ?c13 ?k13 ?a14 ?l14 ?c14 ?k14 ?a15 ?l15 ?c15 ?k15 ?a16 ?l16 ?c16 ?k16 ?a17 ?l17 ?c17 ?k17 ?a18 ?l18 ?c18 ?k18 ?a19 ?l19 ?c19 ?k19 ?a20 ?l20 ?c20 ?k20 ?a21 ?l21 ?c21 ?k21 ?a22 ?l22 ?c22 ?k22 ?a23 ?l23 ?c23 ?k23 ?a24 ?l24 ?c24 ?k24 ?a25 ?l25 ?c25 ?k25 ?a26 ?l26 ?c26 ?k26 ?a27 ?l27 ?c27 ?k27 ?a28 ?l28 ?c28 ?k28 ?a29 ?l29 ?c29 ?k29 ?zrep ?zzip ?aS ?qC ?qpg ?qhd ?qpo ?qsa ?qmk ?qkc ?qn1 ?qn2 ?qn3 ?qn4 ?qn5 ?qn6 ?aQI ?iQI ?lQI ?cQI ?kQI ?aQB ?iQB ?lQB ?cQB ?kQB ?aQN ?iQN ?lQN ?cQN ?kQN ?aQF ?iQF ?lQF ?cQF ?kQF ?aQC ?iQC ?lQC ?cQC ?kQC ?aQR ?iQR ?lQR ?cQR ?kQR ?aC ?aI ?iI ?lI ?cI ?kI ?lT ?lA ?pg ?hd ?po ?sa ?mk ?kc ?nR ?nF ?nS ?nL ?aMA ?iMA ?lMA ?cMA ?kMA ?z1 ?z2 ?z3 ?z4 ?z5 ?z6 ?z7 ?z8 ?z9 ?z10 ?z11 ?z12 ?z13 ?z14
    (case a1 => k_is); (case l1 => k_is); (case c1 => k_is); (case k1 => k_is); (case a2 => k_is); (case l2 => k_is); (case c2 => k_is); (case k2 => k_is); (case a3 => k_is); (case l3 => k_is); (case c3 => k_is); (case k3 => k_is); (case a4 => k_is); (case l4 => k_is); (case c4 => k_is); (case k4 => k_is); (case a5 => k_is); (case l5 => k_is); (case c5 => k_is); (case k5 => k_is); (case a6 => k_is); (case l6 => k_is); (case c6 => k_is); (case k6 => k_is); (case a7 => k_is); (case l7 => k_is); (case c7 => k_is); (case k7 => k_is); (case a8 => k_is); (case l8 => k_is); (case c8 => k_is); (case k8 => k_is); (case a9 => k_is); (case l9 => k_is); (case c9 => k_is); (case k9 => k_is); (case a10 => k_is); (case l10 => k_is); (case c10 => k_is); (case k10 => k_is); (case a11 => k_is); (case l11 => k_is); (case c11 => k_is); (case k11 => k_is); (case a12 => k_is); (case l12 => k_is); (case c12 => k_is); (case k12 => k_is); (case a13 => k_is); (case l13 => k_is); (case c13 => k_is); (case k13 => k_is); (case a14 => k_is); (case l14 => k_is); (case c14 => k_is); (case k14 => k_is); (case a15 => k_is); (case l15 => k_is); (case c15 => k_is); (case k15 => k_is); (case a16 => k_is); (case l16 => k_is); (case c16 => k_is); (case k16 => k_is); (case a17 => k_is); (case l17 => k_is); (case c17 => k_is); (case k17 => k_is); (case a18 => k_is); (case l18 => k_is); (case c18 => k_is); (case k18 => k_is); (case a19 => k_is); (case l19 => k_is); (case c19 => k_is); (case k19 => k_is); (case a20 => k_is); (case l20 => k_is); (case c20 => k_is); (case k20 => k_is); (case a21 => k_is); (case l21 => k_is); (case c21 => k_is); (case k21 => k_is); (case a22 => k_is); (case l22 => k_is); (case c22 => k_is); (case k22 => k_is); (case a23 => k_is); (case l23 => k_is); (case c23 => k_is); (case k23 => k_is); (case a24 => k_is); (case l24 => k_is); (case c24 => k_is); (case k24 => k_is); (case a25 => k_is); (case l25 => k_is); (case c25 => k_is); (case k25 => k_is); (case a26 => k_is); (case l26 => k_is); (case c26 => k_is); (case k26 => k_is); (case a27 => k_is); (case l27 => k_is); (case c27 => k_is); (case k27 => k_is); (case a28 => k_is); (case l28 => k_is); (case c28 => k_is); (case k28 => k_is); (case a29 => k_is); (case l29 => k_is); (case c29 => k_is); (case k29 => k_is); (case zrep => k_is); (case zzip => k_is); (case aS => k_is); (case qC => k_is); (case qpg => k_is); (case qhd => k_is); (case qpo => k_is); (case qsa => k_is); (case qmk => k_is); (case qkc => k_is); (case qn1 => k_is); (case qn2 => k_is); (case qn3 => k_is); (case qn4 => k_is); (case qn5 => k_is); (case qn6 => k_is); (case aQI => k_is); (case iQI => k_is); (case lQI => k_is); (case cQI => k_is); (case kQI => k_is); (case aQB => k_is); (case iQB => k_is); (case lQB => k_is); (case cQB => k_is); (case kQB => k_is); (case aQN => k_is); (case iQN => k_is); (case lQN => k_is); (case cQN => k_is); (case kQN => k_is); (case aQF => k_is); (case iQF => k_is); (case lQF => k_is); (case cQF => k_is); (case kQF => k_is); (case aQC => k_is); (case iQC => k_is); (case lQC => k_is); (case cQC => k_is); (case kQC => k_is); (case aQR => k_is); (case iQR => k_is); (case lQR => k_is); (case cQR => k_is); (case kQR => k_is); (case aC => k_is); (case aI => k_is); (case iI => k_is); (case lI => k_is); (case cI => k_is); (case kI => k_is); (case lT => k_is); (case lA => k_is); (case pg => k_is); (case hd => k_is); (case po => k_is); (case sa => k_is); (case mk => k_is); (case kc => k_is); (case nR => k_is); (case nF => k_is); (case nS => k_is); (case nL => k_is); (case aMA => k_is); (case iMA => k_is); (case lMA => k_is); (case cMA => k_is); (case kMA => k_is); (case z1 => k_is); (case z2 => k_is); (case z3 => k_is); (case z4 => k_is); (case z5 => k_is); (case z6 => k_is); (case z7 => k_is); (case z8 => k_is); (case z9 => k_is); (case z10 => k_is); (case z11 => k_is); (case z12 => k_is); (case z13 => k_is); (case z14 => k_is)
