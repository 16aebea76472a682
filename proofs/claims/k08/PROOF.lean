import PyProof.Rows.All
import Wide.All
import OpenK.AllK
import Wide.FinOn
import PyProof.EqAt
import PyProof.EqKinds
import PyProof.TupleCall
import HandS.ForMost
import HandS.IsInst
import HandS.TupAny
import HandS.Strs
import HandS.Replace
import HandS.SetKeys
import HandS.Style
import HandS.Deep
import HandS.TupLen
import HandS.More
import HandS.Walk
import HandS.Defaults
import PySem.Challenge.RW_turnshelves_k08_places_in_the_region
set_option Elab.async false
set_option linter.all false
set_option maxRecDepth 100000
set_option maxHeartbeats 4000000
/-! defs by name; what a drawer leaves -/
namespace Ow
open PySem PySem.Spec PyProof.Rows L2

/-- the def that the module's name x holds keeps sp, by k levels -/
structure Kn (P : Program) (w : World) (K : PySem.W.Frag) (mg : Str → Option Value) (base : Heap)
    (k : Nat) (x : Str) (ps : List Str) (sp : Sp) : Prop where
  ex : ∃ f fd, FnOk P w K mg base CX0 k f fd ps sp ∧ mg x = some (.ref f) ∧
    PySem.W.keepIn K (.ref f) = true ∧ Binds K fd ps []

theorem pe_kn {X : Cx} {k j : Nat} {x : Str} {ps : List Str} {sp : Sp} {p pos : Pos} {e : Expr}
    {es : List Expr} {t : TA} (c : Kn X.prog X.w X.K X.mg X.base k x ps sp) (hr : Room j X.A)
    (ha : PA X (e :: es) t) (hk : k ≤ j := by decide) (hg : Gl X x := by rfl)
    (hdb : (x == ("__debug__" : Str)) = false := by decide)
    (he : starEach (e :: es) X.env = (false, eval e X.env) :: starEach es X.env := by rfl)
    (hpl : (backTo pos (starEach es X.env)).any (·.1) = false := by rfl) :
    PE X (.Call (.Name x p) (e :: es) [] pos) (tCall sp [] E0 t) := by
  obtain ⟨f, fd, F, gm, kp, b⟩ := c.ex
  exact pe_call F (hr.mono hk) hg gm kp b .nil pass0 ha hdb he hpl

theorem hu64 {k : Nat} {A : Around} (hr : Room k A) : A.units + 64 < cLine := hr.units

/-- the heap but for what stands at p -/
def Gw (p : Addr) (H H' : Hp) : Prop := ∀ b o, b ≠ p → H b = some o → H' b = some o
theorem Gw.refl (p : Addr) (H : Hp) : Gw p H H := fun _ _ _ e => e
theorem Gw.trans {p : Addr} {H H1 H2 : Hp} (a : Gw p H H1) (b : Gw p H1 H2) : Gw p H H2 :=
  fun c o n e => b c o n (a c o n e)
theorem Gw.new {p q : Addr} {H : Hp} {o : HO} (n : H q = none) : Gw p H (upd H q o) :=
  fun b u _ e => by rw [upd_ne (ne_of_none e n)]; exact e
theorem Gw.put {p : Addr} {H : Hp} {o : HO} : Gw p H (upd H p o) :=
  fun b u nb e => by rw [upd_ne nb]; exact e
theorem Gw.same {p : Addr} {H H' : Hp} (s : Same H H') : Gw p H H' := fun b o _ e => s b o e
theorem Same.new {q : Addr} {H : Hp} {o : HO} (n : H q = none) : Same H (upd H q o) :=
  fun b u e => by rw [upd_ne (ne_of_none e n)]; exact e

/-- what a drawer keeps at p: its numbers (at d) and its place -/
def Rng (d : Addr) (H : Hp) (p : Addr) : Prop := ∃ (ds : List Int) (k : Int),
  H p = some (.lst [.ref d, .int k]) ∧ 0 ≤ k ∧ H d = some (.lst (ds.map V.int))
theorem Rng.ne {H : Hp} {p d : Addr} {k : Int} {ds : List Int} (h : H p = some (.lst [.ref d, .int k]))
    (g : H d = some (.lst (ds.map V.int))) : d ≠ p := by
  intro e
  subst e
  rw [h] at g
  injection g with g
  injection g with g
  cases ds with
  | nil => cases g
  | cons a r =>
    rw [List.map_cons] at g
    injection g with g1 _
    cases g1
theorem Rng.same {H H' : Hp} {p d : Addr} (r : Rng d H p) (s : Same H H') : Rng d H' p := by
  obtain ⟨ds, k, h, z, g⟩ := r
  exact ⟨ds, k, s _ _ h, z, s _ _ g⟩
theorem Rng.free {H : Hp} {p d q : Addr} (r : Rng d H p) (n : H q = none) : q ≠ p ∧ q ≠ d := by
  obtain ⟨ds, k, h, _, g⟩ := r
  exact ⟨(ne_of_none h n).symm, (ne_of_none g n).symm⟩
theorem Rng.upd {H : Hp} {p d q : Addr} {o : HO} (r : Rng d H p) (n : q ≠ p ∧ q ≠ d) : Rng d (L2.upd H q o) p := by
  obtain ⟨ds, k, h, z, g⟩ := r
  exact ⟨ds, k, by rw [upd_ne n.1.symm]; exact h, z, by rw [upd_ne n.2.symm]; exact g⟩

/-- a call that draws from p: whatever x it hands back, of which R tells -/
def Drw (p d : Addr) (H : Hp) (Q : VK) (R : V → Hp → Prop) : Prop :=
  ∀ x H', R x H' → Gw p H H' → Rng d H' p → Q x H'
theorem Gw.over {p o : Addr} {H H' : Hp} {u : HO} (g : Gw p H H') (n : H o = none) : Gw p H (upd H' o u) :=
  fun b x nb e => by rw [upd_ne (ne_of_none e n)]; exact g b x nb e
theorem Same.over {o : Addr} {H H' : Hp} {u : HO} (g : Same H H') (n : H o = none) : Same H (upd H' o u) :=
  fun b x e => by rw [upd_ne (ne_of_none e n)]; exact g b x e
theorem Gw.keep {p q : Addr} {H H' : Hp} {o : HO} (g : Gw p H H') (h : H q = some o) (n : q ≠ p) : H' q = some o := g q o n h
/-- what is free behind was free before -/
theorem Gw.free {p q : Addr} {H H' : Hp} (g : Gw p H H') (n : H' q = none) (ne : q ≠ p) : H q = none := by
  cases z : H q with
  | none => rfl
  | some o =>
    rw [g q o ne z] at n
    cases n
theorem small {n m : Nat} (h : n ≤ m) (hm : m ≤ 10000) : n < sizeLine :=
  Nat.lt_of_le_of_lt (Nat.le_trans h hm) (by decide)
end Ow
namespace Ow
open PySem PySem.Spec PyProof.Rows L2
theorem pget_list {X : Cx} : PGet X (rIxL X.K) := by
  intro pins s σ H o i ov iv Q I ro ri h
  obtain ⟨p, xs, n, v, rfl, rfl, hs, ha, q⟩ := h
  cases ro
  obtain ⟨t, rfl⟩ := ri
  obtain ⟨its, r, pl, hz⟩ := I.list hs
  obtain ⟨j, h1, h2, h3, h4, h5⟩ := atI_get ha
  obtain ⟨u, eu, ru⟩ := r.get h2
  have ln := line63
  have hl := r.length
  by_cases h0 : 0 ≤ n
  · have ej : n.toNat = j := by
      rw [seqIndex_of h0 h5] at h1
      exact Option.some.inj h1
    exact wpAny_getItem_list pl.isList h0 (by omega) (by rw [ej]; simpa using eu) ⟨v, H, I, ru, q⟩
  · have ej : (n + (its.toArray.size : Int)).toNat = j := by
      rw [seqIndex_neg (by omega) h4] at h1
      rw [List.size_toArray, ← hl]
      exact Option.some.inj h1
    exact wpAny_getItem_list_neg pl.isList (by omega) (by rw [List.size_toArray]; omega) (by omega)
      (by rw [ej]; simpa using eu) ⟨v, H, I, ru, q⟩
theorem at_in {α : Type} {xs : List α} {v : Int} (h0 : 0 ≤ v) (h1 : v < xs.length) : ∃ y, atI xs v = some y ∧ y ∈ xs := by
  have h : v.toNat < xs.length := by omega
  have e : v = ((v.toNat : Nat) : Int) := by omega
  refine ⟨xs[v.toNat], ?_, List.getElem_mem h⟩
  have z := atI_nat (xs := xs) (j := v.toNat) (List.getElem?_eq_getElem h)
  rw [← e] at z
  exact z
end Ow
namespace Ow
open PySem PySem.Spec PyProof.Rows L2
/-- a built-in class by its name -/
theorem pe_ty {X : Cx} (n : String) {x : Str} {pos : Pos} (hg : Gl X x) (hm : X.mg x = none) (hv : bootBuiltins x = some (.type n))
    (hn : x ≠ "__name__" := by decide) (hd : (x == ("__debug__" : Str)) = false := by decide) : PE X (.Name x pos) (tC (.ty n)) :=
  pe_bltn hg hm hv rfl hn hd
theorem sz (n : Nat) (h : n ≤ 1000 := by decide) : n ≤ sizeLine := Nat.le_trans h (by decide)
/-- a statement and the rest, with a word between -/
theorem pss_mid {X : Cx} {st : Stmt} {rest : List Stmt} {t u : TS} (a : PS X st t) (b : PSs X rest u) :
    PSs X (st :: rest) fun D σ H => ∃ Mid : L2.St → Hp → Prop, t { D with nx := Mid } σ H ∧ ∀ σ' H', Mid σ' H' → u D σ' H' := by
  refine ⟨fun pins s σ H D I ⟨Mid, hm, hu⟩ => ?_⟩
  refine wpAny_execs_cons (thn (a.run pins s σ H { D with nx := Mid } I hm) fun f s1 q => ?_)
  cases f with
  | next =>
    obtain ⟨σ', H', I', q⟩ := q
    exact b.run pins s1 σ' H' D I' (hu σ' H' q)
  | ret v => exact q
  | brk => exact q
  | cont => exact q
end Ow
/-! tuples of data compared by < and >: only the places up to the first unequal pair are asked. -/
namespace Tlz
open PySem PySem.SeqAt PySem.MeetsSeq PySem.MeetsSeq2 PySem.MeetsSeq3
open PySem.AutoSeq1 (wpAny_loadPart')

/-- x op y gives the answer k and leaves the state -/
def Rc (op : CmpOp) (A : Around) (s : Shared) (x y : Value) (k : Bool) : Prop :=
  ∀ (P : Program) (w : World) (E Q : Value → Shared → Prop), Q (.bool k) s →
    wpAny (model P w) A (richCompare op x y) Q E s

/-- the first of the next k places, from i on, that differs tells; fin if none does -/
def scan (eq ans : Nat → Bool) (fin : Bool) (i : Nat) : Nat → Bool
  | 0 => fin
  | k + 1 => cond (eq i) (scan eq ans fin (i + 1) k) (ans i)

theorem scan_eq {eq ans : Nat → Bool} {fin : Bool} {i k : Nat} (h : eq i = true) :
    scan eq ans fin i (k + 1) = scan eq ans fin (i + 1) k := by
  show cond (eq i) _ _ = _
  rw [h]; rfl
theorem scan_ne {eq ans : Nat → Bool} {fin : Bool} {i k : Nat} (h : eq i = false) :
    scan eq ans fin i (k + 1) = ans i := by
  show cond (eq i) _ _ = _
  rw [h]; rfl

theorem ltBody (a b : Addr) (us vs : Array Value) (n m : Nat) (da db : Option Addr)
    (sa sb : Array (Option Value)) (eq ans : Nat → Bool) :
    Meets (Builtin.«tuple.__lt__» ⟨[.ref a, .ref b], []⟩) (fun A R s =>
      s.heap.get? a = some ⟨.type "tuple", da, .seq us n, sa⟩ ∧
      s.heap.get? b = some ⟨.type "tuple", db, .seq vs m, sb⟩ ∧
      (∀ j (p : j < us.size) (q : j < vs.size), EqAt A.in1 s us[j] vs[j] (eq j)) ∧
      (∀ j (p : j < us.size) (q : j < vs.size), (∀ i, i < j → eq i = true) → eq j = false →
        Rc .Lt A.in1 s us[j] vs[j] (ans j)) ∧
      R (.ok (.ret (.bool (scan eq ans (decide (us.size < vs.size)) 0 (min us.size vs.size))))) s) :=
  .of_wp fun P w A R s ⟨ha, hb, he, hr, h⟩ => by
    obtain ⟨hp, g, d, tk, os⟩ := s
    have sub := AutoSeq1.sub_tuple_tuple
    have len : (us.toList.zip vs.toList).length = min us.size vs.size := by simp
    wp_walk using wpAny_loadPart' ha, wpAny_loadPart' hb, wpAny_forIn_list _ (fun rest c s' => c.1 = none ∧
      s' = ⟨hp, g, d, tk, os⟩ ∧ ∃ i, rest = (us.toList.zip vs.toList).drop i ∧ (∀ z, z < i → eq z = true) ∧
      R (.ok (.ret (.bool (scan eq ans (decide (us.size < vs.size)) i (min us.size vs.size - i))))) s') _
    case turn =>
      rintro ⟨y, x⟩ rest c s' ⟨hc, rfl, i, hz, pre, hR⟩
      have hi : i < min us.size vs.size := by
        rw [← len]
        apply Nat.lt_of_not_le
        intro z
        rw [List.drop_of_length_le z] at hz
        cases hz
      have p : i < us.size := by omega
      have q : i < vs.size := by omega
      rw [List.drop_eq_getElem_cons (by rw [len]; exact hi)] at hz
      injection hz with e1 e2
      have ey : y = us[i] := by simpa using congrArg Prod.fst e1
      have ex : x = vs[i] := by simpa using congrArg Prod.snd e1
      subst ey ex
      have cut : min us.size vs.size - i = min us.size vs.size - (i + 1) + 1 := by omega
      rw [cut] at hR
      refine wpAny_bind (he i p q P w _ _ ?_)
      by_cases k : eq i = true
      · rw [scan_eq k] at hR
        rw [k]
        wp_walk
        refine ⟨rfl, rfl, i + 1, e2, fun z hz => ?_, hR⟩
        by_cases t : z = i
        · rw [t]; exact k
        · exact pre z (by omega)
      · have k' : eq i = false := by simpa using k
        rw [scan_ne k'] at hR
        have r := hr i p q pre k' P w
        rw [k']
        wp_walk using r
        exact ⟨_, rfl, by simpa using hR⟩
    case fin =>
      rintro ⟨c1, c2⟩ s' ⟨hc, rfl, i, hz, pre, hR⟩
      have hc' : c1 = none := hc
      subst hc'
      have hi : min us.size vs.size ≤ i := by
        apply Nat.le_of_not_lt
        intro z
        rw [List.drop_eq_getElem_cons (by rw [len]; exact z)] at hz
        cases hz
      rw [Nat.sub_eq_zero_of_le hi] at hR
      wp_walk
      exact ⟨_, rfl, by simpa [Builtin.Tuple.tupleCompareSizes, scan] using hR⟩
    case h => exact ⟨rfl, rfl, 0, rfl, fun _ z => absurd z (Nat.not_lt_zero _), by simpa using h⟩

theorem gtBody (a b : Addr) (us vs : Array Value) (n m : Nat) (da db : Option Addr)
    (sa sb : Array (Option Value)) (eq ans : Nat → Bool) :
    Meets (Builtin.«tuple.__gt__» ⟨[.ref a, .ref b], []⟩) (fun A R s =>
      s.heap.get? a = some ⟨.type "tuple", da, .seq us n, sa⟩ ∧
      s.heap.get? b = some ⟨.type "tuple", db, .seq vs m, sb⟩ ∧
      (∀ j (p : j < us.size) (q : j < vs.size), EqAt A.in1 s us[j] vs[j] (eq j)) ∧
      (∀ j (p : j < us.size) (q : j < vs.size), (∀ i, i < j → eq i = true) → eq j = false →
        Rc .Gt A.in1 s us[j] vs[j] (ans j)) ∧
      R (.ok (.ret (.bool (scan eq ans (decide (us.size > vs.size)) 0 (min us.size vs.size))))) s) :=
  .of_wp fun P w A R s ⟨ha, hb, he, hr, h⟩ => by
    obtain ⟨hp, g, d, tk, os⟩ := s
    have sub := AutoSeq1.sub_tuple_tuple
    have len : (us.toList.zip vs.toList).length = min us.size vs.size := by simp
    wp_walk using wpAny_loadPart' ha, wpAny_loadPart' hb, wpAny_forIn_list _ (fun rest c s' => c.1 = none ∧
      s' = ⟨hp, g, d, tk, os⟩ ∧ ∃ i, rest = (us.toList.zip vs.toList).drop i ∧ (∀ z, z < i → eq z = true) ∧
      R (.ok (.ret (.bool (scan eq ans (decide (us.size > vs.size)) i (min us.size vs.size - i))))) s') _
    case turn =>
      rintro ⟨y, x⟩ rest c s' ⟨hc, rfl, i, hz, pre, hR⟩
      have hi : i < min us.size vs.size := by
        rw [← len]
        apply Nat.lt_of_not_le
        intro z
        rw [List.drop_of_length_le z] at hz
        cases hz
      have p : i < us.size := by omega
      have q : i < vs.size := by omega
      rw [List.drop_eq_getElem_cons (by rw [len]; exact hi)] at hz
      injection hz with e1 e2
      have ey : y = us[i] := by simpa using congrArg Prod.fst e1
      have ex : x = vs[i] := by simpa using congrArg Prod.snd e1
      subst ey ex
      have cut : min us.size vs.size - i = min us.size vs.size - (i + 1) + 1 := by omega
      rw [cut] at hR
      refine wpAny_bind (he i p q P w _ _ ?_)
      by_cases k : eq i = true
      · rw [scan_eq k] at hR
        rw [k]
        wp_walk
        refine ⟨rfl, rfl, i + 1, e2, fun z hz => ?_, hR⟩
        by_cases t : z = i
        · rw [t]; exact k
        · exact pre z (by omega)
      · have k' : eq i = false := by simpa using k
        rw [scan_ne k'] at hR
        have r := hr i p q pre k' P w
        rw [k']
        wp_walk using r
        exact ⟨_, rfl, by simpa using hR⟩
    case fin =>
      rintro ⟨c1, c2⟩ s' ⟨hc, rfl, i, hz, pre, hR⟩
      have hc' : c1 = none := hc
      subst hc'
      have hi : min us.size vs.size ≤ i := by
        apply Nat.le_of_not_lt
        intro z
        rw [List.drop_eq_getElem_cons (by rw [len]; exact z)] at hz
        cases hz
      rw [Nat.sub_eq_zero_of_le hi] at hR
      wp_walk
      exact ⟨_, rfl, by simpa [Builtin.Tuple.tupleCompareSizes, scan] using hR⟩
    case h => exact ⟨rfl, rfl, 0, rfl, fun _ z => absurd z (Nat.not_lt_zero _), by simpa using h⟩

theorem Rc.tupLt {A : Around} {s : Shared} {a b : Addr} {us vs : Array Value} {eq ans : Nat → Bool}
    (ta : s.heap.IsTuple a us) (tb : s.heap.IsTuple b vs) (hu : A.units < cLine)
    (he : ∀ j (p : j < us.size) (q : j < vs.size), EqAt A.in1 s us[j] vs[j] (eq j))
    (hr : ∀ j (p : j < us.size) (q : j < vs.size), (∀ i, i < j → eq i = true) → eq j = false →
      Rc .Lt A.in1 s us[j] vs[j] (ans j)) :
    Rc .Lt A s (.ref a) (.ref b) (scan eq ans (decide (us.size < vs.size)) 0 (min us.size vs.size)) := by
  intro P w E Q h
  obtain ⟨⟨c1, da, t1, sa⟩, ga, ca, n, ea⟩ := id ta
  obtain ⟨⟨c2, db, t2, sb⟩, gb, cb, m, eb⟩ := id tb
  have ca1 : c1 = Value.type "tuple" := ca
  have cb1 : c2 = Value.type "tuple" := cb
  have ea1 : t1 = .seq us n := ea
  have eb1 : t2 = .seq vs m := eb
  subst ca1 cb1 ea1 eb1
  exact richCompare_meets_room (op := .Lt) ⟨_, ga, rfl⟩ ⟨_, gb, rfl⟩ F.slot_tuple_lt F.entry_tuple_lt
    (F.args_tuple_lt_2 _ _) (ltBody a b us vs n m da db sa sb eq ans)
    ⟨ga, gb, he, hr, fun z => (nomatch z), h⟩ hu

theorem Rc.tupGt {A : Around} {s : Shared} {a b : Addr} {us vs : Array Value} {eq ans : Nat → Bool}
    (ta : s.heap.IsTuple a us) (tb : s.heap.IsTuple b vs) (hu : A.units < cLine)
    (he : ∀ j (p : j < us.size) (q : j < vs.size), EqAt A.in1 s us[j] vs[j] (eq j))
    (hr : ∀ j (p : j < us.size) (q : j < vs.size), (∀ i, i < j → eq i = true) → eq j = false →
      Rc .Gt A.in1 s us[j] vs[j] (ans j)) :
    Rc .Gt A s (.ref a) (.ref b) (scan eq ans (decide (us.size > vs.size)) 0 (min us.size vs.size)) := by
  intro P w E Q h
  obtain ⟨⟨c1, da, t1, sa⟩, ga, ca, n, ea⟩ := id ta
  obtain ⟨⟨c2, db, t2, sb⟩, gb, cb, m, eb⟩ := id tb
  have ca1 : c1 = Value.type "tuple" := ca
  have cb1 : c2 = Value.type "tuple" := cb
  have ea1 : t1 = .seq us n := ea
  have eb1 : t2 = .seq vs m := eb
  subst ca1 cb1 ea1 eb1
  exact richCompare_meets_room (op := .Gt) ⟨_, ga, rfl⟩ ⟨_, gb, rfl⟩ F.slot_tuple_gt F.entry_tuple_gt
    (F.args_tuple_gt_2 _ _) (gtBody a b us vs n m da db sa sb eq ans)
    ⟨ga, gb, he, hr, fun z => (nomatch z), h⟩ hu
end Tlz
/-! < and > of data that are compared place by place, up to the first that differs -/
namespace Tlz
open PySem PySem.SeqAt PyProof.Rows
def ltL (f : PyData → PyData → Bool) : List PyData → List PyData → Bool
  | [], [] => false
  | [], _ :: _ => true
  | _ :: _, [] => false
  | x :: xs, y :: ys => if PyData.eqv x y = true then ltL f xs ys else f x y
def gtL (f : PyData → PyData → Bool) : List PyData → List PyData → Bool
  | [], [] => false
  | [], _ :: _ => false
  | _ :: _, [] => true
  | x :: xs, y :: ys => if PyData.eqv x y = true then gtL f xs ys else f x y
/-- comparable as far as it is asked -/
def okL (f : PyData → PyData → Bool) : List PyData → List PyData → Bool
  | x :: xs, y :: ys => if PyData.eqv x y = true then okL f xs ys else f x y
  | [], _ => true
  | _ :: _, [] => true
def ltD : Nat → PyData → PyData → Bool
  | _, .int i, .int j => decide (i < j)
  | _, .str x, .str y => decide (x.cps.toList < y.cps.toList)
  | n + 1, .tuple xs, .tuple ys => ltL (ltD n) xs ys
  | _, _, _ => false
def gtD : Nat → PyData → PyData → Bool
  | _, .int i, .int j => decide (j < i)
  | _, .str x, .str y => decide (y.cps.toList < x.cps.toList)
  | n + 1, .tuple xs, .tuple ys => gtL (gtD n) xs ys
  | _, _, _ => false
def okD : Nat → PyData → PyData → Bool
  | _, .int _, .int _ => true
  | _, .str _, .str _ => true
  | n + 1, .tuple xs, .tuple ys => okL (okD n) xs ys
  | _, _, _ => false
abbrev at_ (xs : List PyData) (j : Nat) : PyData := xs.getD j .none
theorem scan_shift (eq ans : Nat → Bool) (fin : Bool) : ∀ k i : Nat,
    scan eq ans fin (i + 1) k = scan (fun j => eq (j + 1)) (fun j => ans (j + 1)) fin i k
  | 0, _ => rfl
  | k + 1, i => by
    show cond (eq (i + 1)) (scan eq ans fin (i + 1 + 1) k) (ans (i + 1)) = cond (eq (i + 1)) (scan _ _ fin (i + 1) k) (ans (i + 1))
    rw [scan_shift eq ans fin k (i + 1)]
theorem scan_lt (f : PyData → PyData → Bool) : ∀ xs ys : List PyData,
    scan (fun j => PyData.eqv (at_ xs j) (at_ ys j)) (fun j => f (at_ xs j) (at_ ys j)) (decide (xs.length < ys.length)) 0 (min xs.length ys.length) = ltL f xs ys
  | [], [] => rfl
  | [], _ :: ys => by simp [scan, ltL]
  | _ :: xs, [] => by simp [scan, ltL]
  | x :: xs, y :: ys => by
    have e : min (x :: xs).length (y :: ys).length = min xs.length ys.length + 1 := by
      rw [List.length_cons, List.length_cons]; omega
    have d : decide ((x :: xs).length < (y :: ys).length) = decide (xs.length < ys.length) := by
      rw [List.length_cons, List.length_cons]
      exact decide_eq_decide.mpr (by omega)
    rw [e, d]
    show cond (PyData.eqv x y) (scan _ _ _ (0 + 1) (min xs.length ys.length)) (f x y) = _
    rw [scan_shift]
    have ih := scan_lt f xs ys
    unfold ltL
    cases h : PyData.eqv x y with
    | true => exact ih
    | false => rfl
theorem scan_gt (f : PyData → PyData → Bool) : ∀ xs ys : List PyData,
    scan (fun j => PyData.eqv (at_ xs j) (at_ ys j)) (fun j => f (at_ xs j) (at_ ys j)) (decide (xs.length > ys.length)) 0 (min xs.length ys.length) = gtL f xs ys
  | [], [] => rfl
  | [], _ :: ys => by simp [scan, gtL]
  | _ :: xs, [] => by simp [scan, gtL]
  | x :: xs, y :: ys => by
    have e : min (x :: xs).length (y :: ys).length = min xs.length ys.length + 1 := by
      rw [List.length_cons, List.length_cons]; omega
    have d : decide ((x :: xs).length > (y :: ys).length) = decide (xs.length > ys.length) := by
      rw [List.length_cons, List.length_cons]
      exact decide_eq_decide.mpr (by omega)
    rw [e, d]
    show cond (PyData.eqv x y) (scan _ _ _ (0 + 1) (min xs.length ys.length)) (f x y) = _
    rw [scan_shift]
    have ih := scan_gt f xs ys
    unfold gtL
    cases h : PyData.eqv x y with
    | true => exact ih
    | false => rfl
theorem okL_at (f : PyData → PyData → Bool) : ∀ (xs ys : List PyData), okL f xs ys = true → ∀ j, j < xs.length → j < ys.length →
    (∀ i, i < j → PyData.eqv (at_ xs i) (at_ ys i) = true) → PyData.eqv (at_ xs j) (at_ ys j) = false → f (at_ xs j) (at_ ys j) = true
  | [], _, _, j, h, _, _, _ => absurd h (Nat.not_lt_zero _)
  | _ :: _, [], _, j, _, h, _, _ => absurd h (Nat.not_lt_zero _)
  | x :: xs, y :: ys, h, j, h1, h2, pre, ne => by
    unfold okL at h
    cases j with
    | zero =>
      have n : PyData.eqv x y = false := ne
      rw [n] at h
      exact h
    | succ j =>
      have p : PyData.eqv x y = true := pre 0 (Nat.succ_pos _)
      rw [p] at h
      exact okL_at f xs ys h j (by simpa using h1) (by simpa using h2) (fun i hi => pre (i + 1) (by omega)) ne
theorem reads_at {h : Heap} : ∀ {vs : List Value} {ds : List PyData} {as : List Addr}, ReadsAll h vs ds as → ∀ j (p : j < vs.length), ∃ bs, Reads h vs[j] (at_ ds j) bs
  | _, _, _, .nil, j, p => absurd p (Nat.not_lt_zero _)
  | _, _, _, .cons r _, 0, _ => ⟨_, r⟩
  | _, _, _, .cons _ t, j + 1, p => reads_at t j (by simpa using p)
theorem lay_at : ∀ (ds : List PyData), PyData.canLayAll0 ds = true → ∀ j, j < ds.length → (at_ ds j).canLay0 = true
  | [], _, j, p => absurd p (Nat.not_lt_zero _)
  | d :: ds, h, j, p => by
    unfold PyData.canLayAll0 at h
    rw [Bool.and_eq_true] at h
    cases j with
    | zero => exact h.1
    | succ j => exact lay_at ds h.2 j (by simpa using p)
theorem deep_at : ∀ (ds : List PyData) (n : Nat), PyData.depthAll ds ≤ n → ∀ j, (at_ ds j).depth ≤ n
  | [], n, _, j => by
    show (PyData.none).depth ≤ n
    exact Nat.zero_le _
  | d :: ds, n, h, j => by
    unfold PyData.depthAll at h
    cases j with
    | zero => exact Nat.le_trans (Nat.le_max_left _ _) h
    | succ j => exact deep_at ds n (Nat.le_trans (Nat.le_max_right _ _) h) j
theorem rcLt : ∀ (n : Nat) (d e : PyData) (A : Around) (s : Shared) (v u : Value) (as bs : List Addr), Reads s.heap v d as → Reads s.heap u e bs →
    d.canLay0 = true → e.canLay0 = true → d.depth ≤ n → okD n d e = true → A.units + n < cLine → Rc .Lt A s v u (ltD n d e) := by
  intro n
  induction n with
  | zero =>
    intro d e A s v u as bs rv ru cd ce dd ok hu
    cases rv with
    | int i t =>
      cases ru with
      | int j t' => exact fun _ _ _ _ h => PyProof.Rows.lt_int h
      | _ => exact absurd ok (by simp [okD])
    | str x t =>
      cases ru with
      | str y t' => exact fun _ _ _ _ h => PyProof.Rows.lt_str h
      | _ => exact absurd ok (by simp [okD])
    | _ => exact absurd ok (by simp [okD])
  | succ n ih =>
    intro d e A s v u as bs rv ru cd ce dd ok hu
    cases rv with
    | int i t =>
      cases ru with
      | int j t' => exact fun _ _ _ _ h => PyProof.Rows.lt_int h
      | _ => exact absurd ok (by simp [okD])
    | str x t =>
      cases ru with
      | str y t' => exact fun _ _ _ _ h => PyProof.Rows.lt_str h
      | _ => exact absurd ok (by simp [okD])
    | @tuple a o vs k xs as h1 h2 h3 h4 =>
      cases ru with
      | @tuple b o' ws k' ys bs g1 g2 g3 g4 =>
        have lx : vs.size = xs.length := by simpa using ReadsAll.lenAny h4
        have ly : ws.size = ys.length := by simpa using ReadsAll.lenAny g4
        have dx : PyData.depthAll xs ≤ n := by
          have z : PyData.depthAll xs + 1 ≤ n + 1 := dd
          omega
        have ok' : okL (okD n) xs ys = true := ok
        have R := Rc.tupLt (A := A) (eq := fun j => PyData.eqv (at_ xs j) (at_ ys j)) (ans := fun j => ltD n (at_ xs j) (at_ ys j)) (a := a) (b := b) (us := vs) (vs := ws) (s := s)
          ⟨_, h1, h2, _, h3⟩ ⟨_, g1, g2, _, g3⟩ (by omega) (fun j p q => by
            obtain ⟨_, r1⟩ := reads_at h4 j (by simpa using p)
            obtain ⟨_, r2⟩ := reads_at g4 j (by simpa using q)
            have := eqAt_reads _ _ A.in1 s _ _ _ _ r1 r2 (lay_at xs cd j (by omega)) (lay_at ys ce j (by omega)) (by
              have z := deep_at xs n dx j
              have zz : min (at_ xs j).depth (at_ ys j).depth ≤ (at_ xs j).depth := Nat.min_le_left _ _
              show A.units + 1 + _ < cLine
              omega)
            simpa using this) (fun j p q pre ne => by
            obtain ⟨_, r1⟩ := reads_at h4 j (by simpa using p)
            obtain ⟨_, r2⟩ := reads_at g4 j (by simpa using q)
            have := ih _ _ A.in1 s _ _ _ _ r1 r2 (lay_at xs cd j (by omega)) (lay_at ys ce j (by omega)) (deep_at xs n dx j)
              (okL_at (okD n) xs ys ok' j (by omega) (by omega) pre ne) (by
                show A.units + 1 + n < cLine
                omega)
            simpa using this)
        rw [lx, ly, scan_lt] at R
        exact R
      | _ => exact absurd ok (by simp [okD])
    | _ => exact absurd ok (by simp [okD])
theorem rcGt : ∀ (n : Nat) (d e : PyData) (A : Around) (s : Shared) (v u : Value) (as bs : List Addr), Reads s.heap v d as → Reads s.heap u e bs →
    d.canLay0 = true → e.canLay0 = true → d.depth ≤ n → okD n d e = true → A.units + n < cLine → Rc .Gt A s v u (gtD n d e) := by
  intro n
  induction n with
  | zero =>
    intro d e A s v u as bs rv ru cd ce dd ok hu
    cases rv with
    | int i t =>
      cases ru with
      | int j t' => exact fun _ _ _ _ h => PyProof.Rows.gt_int h
      | _ => exact absurd ok (by simp [okD])
    | str x t =>
      cases ru with
      | str y t' => exact fun _ _ _ _ h => PySem.P.gt_str h
      | _ => exact absurd ok (by simp [okD])
    | _ => exact absurd ok (by simp [okD])
  | succ n ih =>
    intro d e A s v u as bs rv ru cd ce dd ok hu
    cases rv with
    | int i t =>
      cases ru with
      | int j t' => exact fun _ _ _ _ h => PyProof.Rows.gt_int h
      | _ => exact absurd ok (by simp [okD])
    | str x t =>
      cases ru with
      | str y t' => exact fun _ _ _ _ h => PySem.P.gt_str h
      | _ => exact absurd ok (by simp [okD])
    | @tuple a o vs k xs as h1 h2 h3 h4 =>
      cases ru with
      | @tuple b o' ws k' ys bs g1 g2 g3 g4 =>
        have lx : vs.size = xs.length := by simpa using ReadsAll.lenAny h4
        have ly : ws.size = ys.length := by simpa using ReadsAll.lenAny g4
        have dx : PyData.depthAll xs ≤ n := by
          have z : PyData.depthAll xs + 1 ≤ n + 1 := dd
          omega
        have ok' : okL (okD n) xs ys = true := ok
        have R := Rc.tupGt (A := A) (eq := fun j => PyData.eqv (at_ xs j) (at_ ys j)) (ans := fun j => gtD n (at_ xs j) (at_ ys j)) (a := a) (b := b) (us := vs) (vs := ws) (s := s)
          ⟨_, h1, h2, _, h3⟩ ⟨_, g1, g2, _, g3⟩ (by omega) (fun j p q => by
            obtain ⟨_, r1⟩ := reads_at h4 j (by simpa using p)
            obtain ⟨_, r2⟩ := reads_at g4 j (by simpa using q)
            have := eqAt_reads _ _ A.in1 s _ _ _ _ r1 r2 (lay_at xs cd j (by omega)) (lay_at ys ce j (by omega)) (by
              have z := deep_at xs n dx j
              have zz : min (at_ xs j).depth (at_ ys j).depth ≤ (at_ xs j).depth := Nat.min_le_left _ _
              show A.units + 1 + _ < cLine
              omega)
            simpa using this) (fun j p q pre ne => by
            obtain ⟨_, r1⟩ := reads_at h4 j (by simpa using p)
            obtain ⟨_, r2⟩ := reads_at g4 j (by simpa using q)
            have := ih _ _ A.in1 s _ _ _ _ r1 r2 (lay_at xs cd j (by omega)) (lay_at ys ce j (by omega)) (deep_at xs n dx j)
              (okL_at (okD n) xs ys ok' j (by omega) (by omega) pre ne) (by
                show A.units + 1 + n < cLine
                omega)
            simpa using this)
        rw [lx, ly, scan_gt] at R
        exact R
      | _ => exact absurd ok (by simp [okD])
    | _ => exact absurd ok (by simp [okD])
end Tlz
namespace K1
open PySem PySem.Spec PyProof.Rows L2 Ow
def topS (i : Nat) : Stmt := PySem.Challenge.pw_turnshelves_k08_places_in_the_region.main.body.getD i (.Pass ⟨0, 0, 0, 0⟩)
/-- the names that the top leaves alone -/
structure Bl (mg : Str → Option Value) : Prop where
  range : mg "range" = none
  len : mg "len" = none
  int : mg "int" = none
  str : mg "str" = none
  bool : mg "bool" = none
  list : mg "list" = none
  tuple : mg "tuple" = none
  dict : mg "dict" = none
  isinstance : mg "isinstance" = none
  min : mg "min" = none
  sum : mg "sum" = none
  sorted : mg "sorted" = none
end K1
namespace K1
open PySem PySem.Spec PyProof.Rows L2 Ow
/-- the signs of a text are those of values -/
def Pr (z : Str) : Prop := ∀ c ∈ z.cps.toList, 32 ≤ c ∧ c < 127 ∧ c ≠ 37
instance (z : Str) : Decidable (Pr z) := inferInstanceAs (Decidable (∀ c ∈ z.cps.toList, 32 ≤ c ∧ c < 127 ∧ c ≠ 37))
theorem joinL_mem : ∀ (ps : List (List Nat)) (c : Nat), c ∈ TL.joinL [] ps → ∃ p ∈ ps, c ∈ p
  | [], _, h => nomatch h
  | [p], c, h => ⟨p, List.mem_singleton.mpr rfl, h⟩
  | p :: q :: r, c, h => by
    have h' : c ∈ p ++ ([] ++ TL.joinL [] (q :: r)) := h
    rw [List.nil_append] at h'
    rcases List.mem_append.mp h' with z | z
    · exact ⟨p, List.mem_cons_self, z⟩
    · obtain ⟨x, m, i⟩ := joinL_mem (q :: r) c z
      exact ⟨x, List.mem_cons_of_mem _ m, i⟩
theorem joinL_len : ∀ (ps : List (List Nat)), (TL.joinL [] ps).length = (ps.map (·.length)).sum
  | [] => rfl
  | [p] => by simp [TL.joinL]
  | p :: q :: r => by
    have e : TL.joinL [] (p :: q :: r) = p ++ ([] ++ TL.joinL [] (q :: r)) := rfl
    rw [e, List.nil_append, List.length_append, joinL_len (q :: r)]
    rfl
theorem Pr.join {ys : List Str} (h : ∀ y ∈ ys, Pr y) : Pr (Txt.join (PySem.Str.ofString "") ys) := by
  intro c hc
  rw [TL.join_eq] at hc
  have h1 : c ∈ TL.joinL [] (ys.map fun z => z.cps.toList) := by
    have hc' : c ∈ TL.tl (Str.join (PySem.Str.ofString "") ys) := hc
    rw [TL.tl_join] at hc'
    exact hc'
  obtain ⟨p, m, i⟩ := joinL_mem _ _ h1
  obtain ⟨y, my, rfl⟩ := List.mem_map.mp m
  exact h y my c i
theorem join_size {ys : List Str} : (Txt.join (PySem.Str.ofString "") ys).length = (ys.map (·.length)).sum := by
  rw [TL.join_eq]
  have e : (TL.tl (Str.join (PySem.Str.ofString "") ys)).length = (Str.join (PySem.Str.ofString "") ys).length := by
    show (Str.join (PySem.Str.ofString "") ys).cps.toList.length = _
    rw [Array.length_toList]
    rfl
  rw [← e, TL.tl_join]
  show (TL.joinL [] (ys.map fun z => z.cps.toList)).length = _
  rw [joinL_len, List.map_map]
  congr 1
/-- a value of a row -/
def Scal (v : V) : Prop := (∃ i, v = .int i ∧ i.natAbs < 2 ^ 140) ∨ ∃ z, v = .str z ∧ Pr z ∧ z.length ≤ 200
def firstV : V → V → Bool
  | .int i, .int j => decide (i < j)
  | .int _, .str _ => true
  | .str _, .int _ => false
  | .str x, .str y => decide (x.cps.toList < y.cps.toList)
  | _, _ => false
def orderV : List V → List V → Int
  | [], [] => 0
  | [], _ :: _ => -1
  | _ :: _, [] => 1
  | x :: xs, y :: ys => if firstV x y = true then -1 else if firstV y x = true then 1 else orderV xs ys
def spMix : Sp := fun vs H Q _ => ∃ c k : Int, vs = [.int c, .int k] ∧
  ∀ v : Int, 0 ≤ v → v < 9973 → Q (.int v) H
def spDraws (K : PySem.W.Frag) : Sp := fun vs H Q _ => ∃ (a : Addr) (ns : List Int), vs = [.ref a] ∧
  SqL K H a (ns.map V.int) ∧ ns.length ≤ 63 ∧ ∀ (H' : Hp) (p : Addr) (ds : List Int), Same H H' → H p = none →
    H' p = some (.lst (ds.map V.int)) → Q (.ref p) H'
def spAt (K : PySem.W.Frag) : Sp := fun vs H Q _ => ∃ (d : Addr) (ds : List Int) (i : Int), vs = [.ref d, .int i] ∧
  SqL K H d (ds.map V.int) ∧ 0 ≤ i ∧ ∀ v : Int, Q (.int v) H
def spNext : Sp := fun vs H Q _ => ∃ (p d : Addr) (l : Int), vs = [.ref p, .int l] ∧ 0 < l ∧ Rng d H p ∧
  Drw p d H Q fun x _ => ∃ v : Int, x = .int v ∧ 0 ≤ v ∧ v < l
def spText : Sp := fun vs H Q _ => ∃ (p d : Addr) (m : Nat), vs = [.ref p, .int (m : Int)] ∧ m ≤ 1000 ∧ Rng d H p ∧
  Drw p d H Q fun x _ => ∃ z : Str, x = .str z ∧ Pr z ∧ z.length ≤ m
def spValue : Sp := fun vs H Q _ => ∃ p d : Addr, vs = [.ref p] ∧ Rng d H p ∧ Drw p d H Q fun x _ => Scal x
def spRow : Sp := fun vs H Q _ => ∃ (p d : Addr) (n : Nat), vs = [.ref p, .int (n : Int)] ∧ n ≤ 1000 ∧ Rng d H p ∧
  Drw p d H Q fun x H' => ∃ (q : Addr) (xs : List V), x = .ref q ∧ H' q = some (.tup xs) ∧ xs.length = n ∧ ∀ y ∈ xs, Scal y
def spName : Sp := fun vs H Q _ => ∃ p d : Addr, vs = [.ref p] ∧ Rng d H p ∧ Drw p d H Q fun x _ => ∃ z, x = .str z ∧ Pr z
def spFirst : Sp := fun vs H Q _ => ∃ a b : V, vs = [a, b] ∧ Scal a ∧ Scal b ∧ Q (.bl (firstV a b)) H
def spOrder (K : PySem.W.Frag) : Sp := fun vs H Q _ => ∃ (a b : Addr) (xs ys : List V), vs = [.ref a, .ref b] ∧
  SqT K H a xs ∧ SqT K H b ys ∧ xs.length ≤ 1000 ∧ (∀ x ∈ xs, Scal x) ∧ (∀ y ∈ ys, Scal y) ∧ Q (.int (orderV xs ys)) H
/-- every tuple stays -/
def Tk (K : PySem.W.Frag) (H H' : Hp) : Prop := ∀ (a : Addr) (xs : List V), SqT K H a xs → SqT K H' a xs
theorem Tk.same {K : PySem.W.Frag} {H H' : Hp} (s : Same H H') : Tk K H H' := fun a xs h => by
  rcases h with (h | ⟨o, h⟩) | h
  · exact .inl (.inl (s _ _ h))
  · exact .inl (.inr ⟨o, s _ _ h⟩)
  · exact .inr h
theorem Tk.trans {K : PySem.W.Frag} {H H1 H2 : Hp} (a : Tk K H H1) (b : Tk K H1 H2) : Tk K H H2 := fun c xs h => b c xs (a c xs h)
theorem Tk.gw {K : PySem.W.Frag} {H H' : Hp} {p : Addr} {us : List V} (e : H p = some (.lst us)) (g : Gw p H H') : Tk K H H' := fun a xs h => by
  rcases h with (h | ⟨o, h⟩) | h
  · exact .inl (.inl (g _ _ (fun z => by rw [z, e] at h; cases h) h))
  · exact .inl (.inr ⟨o, g _ _ (fun z => by rw [z, e] at h; cases h) h⟩)
  · exact .inr h
theorem Tk.put {K : PySem.W.Frag} {H : Hp} {p : Addr} {us : List V} {o : HO} (e : H p = some (.lst us)) : Tk K H (upd H p o) := Tk.gw e Gw.put
/-- a def that makes something and keeps all else -/
def Mak (H : Hp) (Q : VK) (R : V → Hp → Prop) : Prop := ∀ x H', R x H' → Same H H' → Q x H'
theorem SqL.same {K : PySem.W.Frag} {H H' : Hp} {a : Addr} {xs : List V} (s : Same H H') (h : SqL K H a xs) : SqL K H' a xs := s.seq h
end K1
namespace Ow
open PySem PySem.Spec PyProof.Rows L2
theorem for_str {x : Str} {g : TG} {tb : TS} {D : Ends} {σ : L2.St} {H : Hp} (Pv : Nat → L2.St → Hp → Prop) (h0 : Pv 0 σ H)
    (hs : ∀ i c σ H, x.cps[i]? = some c → Pv i σ H → g (.str ⟨#[c]⟩) σ H fun σ2 H2 => tb { D with nx := Pv (i + 1), ct := Pv (i + 1), bk := D.nx } σ2 H2) (hd : ∀ σ H, Pv x.cps.size σ H → D.nx σ H) :
    ∃ W : Nat → Nat → L2.St → Hp → Prop, (∃ m, W 0 m σ H) ∧ ∀ i m σ H, W i m σ H →
      ((Its x).stop i H ∧ D.nx σ H) ∨ ((Its x).go i H ∧ ∃ N : L2.St → Hp → Prop, (∀ σ' H', N σ' H' → ∃ m', m' < m ∧ W (i + 1) m' σ' H') ∧ ∀ v H', (Its x).yld i H v H' → g v σ H' fun σ2 H2 => tb { D with nx := N, ct := N, bk := D.nx } σ2 H2) := by
  refine ⟨fun i m σ H => m = x.cps.size - i ∧ i ≤ x.cps.size ∧ Pv i σ H, ⟨x.cps.size, by simp, Nat.zero_le _, h0⟩, ?_⟩
  rintro i m σ H ⟨rfl, hi, p⟩
  by_cases hlt : i < x.cps.size
  · refine .inr ⟨hlt, Pv (i + 1), fun σ' H' p' => ⟨x.cps.size - (i + 1), by omega, rfl, hlt, p'⟩, fun v H' y => ?_⟩
    obtain ⟨rfl, c, ec, rfl⟩ := y
    exact hs i c σ _ ec p
  · have e : i = x.cps.size := by omega
    subst e
    exact .inl ⟨Nat.le_refl _, hd σ H p⟩
theorem lc_str {x : Str} {g : TG} {tt : TT} {te : TE} {vs : List Nat} {σ : L2.St} {H1 : Hp} {D : Addr} {Qd : Hp → Prop} (Pv : Nat → Hp → Prop) (h0 : Pv 0 (upd H1 D (.lst [])))
    (hs : ∀ i c H, x.cps[i]? = some c → Pv i H → g (.str ⟨#[c]⟩) (wipe σ vs) H fun σ2 H2 => wipe σ2 vs = wipe σ vs ∧ tt σ2 H2 fun b H3 =>
      if b = true then te σ2 H3 fun y H4 => ∃ acc, H4 D = some (.lst acc) ∧ acc.length < sizeLine ∧ Pv (i + 1) (upd H4 D (.lst (acc ++ [y]))) else Pv (i + 1) H3) (hd : ∀ H, Pv x.cps.size H → Qd H) :
    ∃ W : Nat → Nat → Hp → Prop, (∃ m, W 0 m (upd H1 D (.lst []))) ∧ ∀ i m H, W i m H →
      ((Its x).stop i H ∧ Qd H) ∨ ((Its x).go i H ∧ ∃ Nx : Hp → Prop, (∀ H', Nx H' → ∃ m', m' < m ∧ W (i + 1) m' H') ∧ ∀ v H', (Its x).yld i H v H' → g v (wipe σ vs) H' fun σ2 H2 => wipe σ2 vs = wipe σ vs ∧ tt σ2 H2 fun b H3 =>
        if b = true then te σ2 H3 fun y H4 => ∃ acc, H4 D = some (.lst acc) ∧ acc.length < sizeLine ∧ Nx (upd H4 D (.lst (acc ++ [y]))) else Nx H3) := by
  refine ⟨fun i m H => m = x.cps.size - i ∧ i ≤ x.cps.size ∧ Pv i H, ⟨x.cps.size, by simp, Nat.zero_le _, h0⟩, ?_⟩
  rintro i m H ⟨rfl, hi, p⟩
  by_cases hlt : i < x.cps.size
  · refine .inr ⟨hlt, Pv (i + 1), fun H' p' => ⟨x.cps.size - (i + 1), by omega, rfl, hlt, p'⟩, fun v H' y => ?_⟩
    obtain ⟨rfl, c, ec, rfl⟩ := y
    exact hs i c _ ec p
  · have e : i = x.cps.size := by omega
    subst e
    exact .inl ⟨Nat.le_refl _, hd H p⟩
/-- a text times a number -/
theorem op_mul_str {X : Cx} : OpR X (binaryOp .Mult) (fun x y H Q => ∃ z n, x = .str z ∧ y = .int n ∧ 1 ≤ z.length ∧ 0 ≤ n ∧ (z.length : Int) * n ≤ 10000 ∧ Q (.str (Txt.mul z n)) H) := by
  intro pins s σ H x y v u Q I rx ry h
  obtain ⟨z, n, rfl, rfl, h1, h0, hz, q⟩ := h
  obtain ⟨t, rfl⟩ := rx
  obtain ⟨t', rfl⟩ := ry
  have hn : n ≤ 10000 := by
    have : (1 : Int) * n ≤ (z.length : Int) * n := Int.mul_le_mul_of_nonneg_right (by omega) h0
    omega
  have hl : (z.length : Int) ≤ 10000 ∨ n < 1 := by
    by_cases hn0 : n < 1
    · exact .inr hn0
    · left
      have : (z.length : Int) * 1 ≤ (z.length : Int) * n := Int.mul_le_mul_of_nonneg_left (by omega) (by omega)
      omega
  refine SB.mul ⟨?_, ?_, ?_⟩ (fun t' k => ⟨.str (Txt.mul z n), H, I.tok _, ⟨_, rfl⟩, q⟩)
  · rw [decide_eq_false (by omega), decide_eq_false (by omega)]
    rfl
  · intro a _ b
    have c : (2 ^ 63 - 1 : Int) / n ≥ (2 ^ 63 - 1 : Int) / 10000 := by
      have h3 : (2 ^ 63 - 1 : Int) / 10000 * n ≤ 2 ^ 63 - 1 := by
        have : (2 ^ 63 - 1 : Int) / 10000 * n ≤ (2 ^ 63 - 1 : Int) / 10000 * 10000 := Int.mul_le_mul_of_nonneg_left hn (by decide)
        have h4 : (2 ^ 63 - 1 : Int) / 10000 * 10000 ≤ 2 ^ 63 - 1 := by decide
        omega
      exact (Int.le_ediv_iff_mul_le (by omega)).mpr h3
    have d : (2 ^ 63 - 1 : Int) / 10000 ≥ 10001 := by decide
    omega
  · intro a _
    have e : ((z.length * n.toNat : Nat) : Int) = (z.length : Int) * n := by
      rw [Int.natCast_mul, Int.toNat_of_nonneg h0]
    have e2 : z.length * n.toNat ≤ 10000 := by omega
    show decide _ = false
    exact decide_eq_false (by
      have : sizeLine = 16777216 := rfl
      omega)
end Ow
namespace Ow
open PySem PySem.Spec PyProof.Rows L2 Tlz
/-- two data at x, y, comparable to depth n -/
structure Cp (K : PySem.W.Frag) (H : Hp) (n : Nat) (x y : V) (d e : PyData) : Prop where
  l : Dp K H x d
  r : Dp K H y e
  cl : d.canLay0 = true
  cr : e.canLay0 = true
  dl : d.depth ≤ n
  dr : e.depth ≤ n
  ok : okD n d e = true
  n60 : n ≤ 60
def rLtK (K : PySem.W.Frag) : R2 := fun x y H Q => ∃ n d e, Cp K H n x y d e ∧ Q (.bl (ltD n d e)) H
def rGtK (K : PySem.W.Frag) : R2 := fun x y H Q => ∃ n d e, Cp K H n x y d e ∧ Q (.bl (gtD n d e)) H
theorem op_ltK {X : Cx} {k : Nat} (hr : Room k X.A) : OpR X (compareOp .Lt) (rLtK X.K) := by
  intro pins s σ H x y v u Q I rx ry h
  obtain ⟨n, d, e, c, q⟩ := h
  obtain ⟨as, r1⟩ := Dp.reads I d x v c.l rx
  obtain ⟨bs, r2⟩ := Dp.reads I e y u c.r ry
  have hu := hr.units
  have c6 := c.n60
  exact rcLt n d e X.A s v u as bs r1 r2 c.cl c.cr c.dl c.ok (by omega) X.prog X.w X.xe (EP X pins σ Q) ⟨.bl _, H, I, rfl, q⟩
theorem op_gtK {X : Cx} {k : Nat} (hr : Room k X.A) : OpR X (compareOp .Gt) (rGtK X.K) := by
  intro pins s σ H x y v u Q I rx ry h
  obtain ⟨n, d, e, c, q⟩ := h
  obtain ⟨as, r1⟩ := Dp.reads I d x v c.l rx
  obtain ⟨bs, r2⟩ := Dp.reads I e y u c.r ry
  have hu := hr.units
  have c6 := c.n60
  exact rcGt n d e X.A s v u as bs r1 r2 c.cl c.cr c.dl c.ok (by omega) X.prog X.w X.xe (EP X pins σ Q) ⟨.bl _, H, I, rfl, q⟩
theorem shaped_of {d : PyData} {n : Nat} (c : d.canLay0 = true) (h : d.depth ≤ n) (hn : n ≤ 60) : SeqAt.shaped d = true := by
  unfold SeqAt.shaped
  rw [c, decide_eq_true (show d.depth ≤ 64 by omega)]
  rfl
end Ow
namespace K1
open PySem PySem.Spec PyProof.Rows L2 Ow Tlz
/-- the key of a value, as data -/
def vkD : V → PyData
  | .int i => .tuple [.int 0, .int i]
  | .str z => .tuple [.int 1, .str z]
  | _ => .none
def rkD (xs : List V) : PyData := .tuple (xs.map vkD)
def kD (s : Int) (n : Str) (row : List V) : PyData := .tuple [.int s, .str n, rkD row]
def kd2 (s : Int) (n : Str) : PyData := .tuple [.int s, .str n]
/-- the order o tells what <, == and > say of d and e -/
structure Agr (n : Nat) (d e : PyData) (o : Int) : Prop where
  lt : ltD n d e = decide (o < 0)
  eq : PyData.eqv d e = decide (o = 0)
  gt : gtD n d e = decide (0 < o)
theorem str_tri (x y : Str) : (x == y) = (!decide (x.cps.toList < y.cps.toList) && !decide (y.cps.toList < x.cps.toList)) := by
  by_cases h : x = y
  · subst h
    have n : ¬ x.cps.toList < x.cps.toList := List.lt_irrefl _
    simp [n]
  · have e : (x == y) = false := by simpa using h
    rw [e]
    symm
    rw [Bool.and_eq_false_iff]
    apply Classical.byContradiction
    intro z
    apply h
    have z1 : ¬ x.cps.toList < y.cps.toList := fun w => z (.inl (by rw [decide_eq_true w]; rfl))
    have z2 : ¬ y.cps.toList < x.cps.toList := fun w => z (.inr (by rw [decide_eq_true w]; rfl))
    have e2 : x.cps.toList = y.cps.toList := List.le_antisymm z2 z1
    cases x
    cases y
    simp only [Str.mk.injEq]
    exact Array.toList_inj.mp e2
theorem eqv_int (i j : Int) : PyData.eqv (.int i) (.int j) = (i == j) := by rw [PyData.eqv]
theorem eqv_str (x y : Str) : PyData.eqv (.str x) (.str y) = (x == y) := by rw [PyData.eqv]
theorem eqv_tup (xs ys : List PyData) : PyData.eqv (.tuple xs) (.tuple ys) = PyData.eqvAll xs ys := by rw [PyData.eqv]
theorem eqv_cons (x y : PyData) (xs ys : List PyData) : PyData.eqvAll (x :: xs) (y :: ys) = (PyData.eqv x y && PyData.eqvAll xs ys) := by rw [PyData.eqvAll]
theorem eqv_nil : PyData.eqvAll [] [] = true := by rw [PyData.eqvAll]
theorem eqv_nc (y : PyData) (ys : List PyData) : PyData.eqvAll [] (y :: ys) = false := by rw [PyData.eqvAll]
theorem eqv_cn (x : PyData) (xs : List PyData) : PyData.eqvAll (x :: xs) [] = false := by rw [PyData.eqvAll]
theorem int_tri (i j : Int) : (i == j) = (!decide (i < j) && !decide (j < i)) := by
  by_cases h : i = j
  · subst h; simp
  · have e : (i == j) = false := by simpa using h
    rw [e]
    rcases Int.lt_or_gt_of_ne h with z | z
    · simp [z]
    · simp [z]
/-- the keys of two values -/
theorem vk_all {x y : V} (sx : Scal x) (sy : Scal y) (n : Nat) : okD (n + 1) (vkD x) (vkD y) = true ∧ ltD (n + 1) (vkD x) (vkD y) = firstV x y ∧ gtD (n + 1) (vkD x) (vkD y) = firstV y x ∧
    PyData.eqv (vkD x) (vkD y) = (!firstV x y && !firstV y x) := by
  rcases sx with ⟨i, rfl, _⟩ | ⟨x, rfl, _⟩ <;> rcases sy with ⟨j, rfl, _⟩ | ⟨y, rfl, _⟩
  · simp only [vkD, okD, ltD, gtD, okL, ltL, gtL, eqv_int, eqv_tup, eqv_cons, eqv_nil, firstV, beq_self_eq_true, if_true, Bool.true_and, Bool.and_true, ← int_tri]
    cases h : (i == j) with
    | true =>
      have e : i = j := by simpa using h
      subst e
      simp
    | false => simp
  · have e : ((0 : Int) == 1) = false := by decide
    simp only [vkD, okD, ltD, gtD, okL, ltL, gtL, eqv_int, eqv_tup, eqv_cons, eqv_nil, firstV, e, if_false, Bool.false_and, Bool.false_eq_true]
    decide
  · have e : ((1 : Int) == 0) = false := by decide
    simp only [vkD, okD, ltD, gtD, okL, ltL, gtL, eqv_int, eqv_tup, eqv_cons, eqv_nil, firstV, e, if_false, Bool.false_and, Bool.false_eq_true]
    decide
  · simp only [vkD, okD, ltD, gtD, okL, ltL, gtL, eqv_int, eqv_str, eqv_tup, eqv_cons, eqv_nil, firstV, beq_self_eq_true, if_true, Bool.true_and, Bool.and_true, ← str_tri]
    cases h : (x == y) with
    | true =>
      have e : x = y := by simpa using h
      subst e
      have n : ¬ x.cps.toList < x.cps.toList := List.lt_irrefl _
      simp [n]
    | false => simp
theorem first_asym {x y : V} (sx : Scal x) (sy : Scal y) (h : firstV x y = true) : firstV y x = false := by
  rcases sx with ⟨i, rfl, _⟩ | ⟨x, rfl, _⟩ <;> rcases sy with ⟨j, rfl, _⟩ | ⟨y, rfl, _⟩
  · have h' : i < j := of_decide_eq_true h
    exact decide_eq_false (by omega)
  · rfl
  · exact absurd (show false = true from h) Bool.false_ne_true
  · have h' : x.cps.toList < y.cps.toList := of_decide_eq_true h
    exact decide_eq_false (List.lt_asymm h')
/-- the keys of two rows -/
theorem rk_all (n : Nat) : ∀ (xs ys : List V), (∀ x ∈ xs, Scal x) → (∀ y ∈ ys, Scal y) →
    okL (okD (n + 1)) (xs.map vkD) (ys.map vkD) = true ∧ ltL (ltD (n + 1)) (xs.map vkD) (ys.map vkD) = decide (orderV xs ys < 0) ∧
    gtL (gtD (n + 1)) (xs.map vkD) (ys.map vkD) = decide (0 < orderV xs ys) ∧ PyData.eqvAll (xs.map vkD) (ys.map vkD) = decide (orderV xs ys = 0)
  | [], [], _, _ => ⟨rfl, rfl, rfl, by rw [List.map_nil, eqv_nil]; rfl⟩
  | [], y :: ys, _, _ => ⟨rfl, rfl, rfl, by rw [List.map_nil, List.map_cons, eqv_nc]; rfl⟩
  | x :: xs, [], _, _ => ⟨rfl, rfl, rfl, by rw [List.map_nil, List.map_cons, eqv_cn]; rfl⟩
  | x :: xs, y :: ys, hx, hy => by
    have sx := hx x List.mem_cons_self
    have sy := hy y List.mem_cons_self
    obtain ⟨a1, a2, a3, a4⟩ := vk_all sx sy n
    obtain ⟨b1, b2, b3, b4⟩ := rk_all n xs ys (fun z m => hx z (List.mem_cons_of_mem _ m)) (fun z m => hy z (List.mem_cons_of_mem _ m))
    rw [List.map_cons, List.map_cons]
    unfold okL ltL gtL orderV
    rw [eqv_cons, a4, a2, a3, a1, b1, b2, b3, b4]
    cases h : firstV x y with
    | true =>
      have h2 := first_asym sx sy h
      rw [h2]
      simp
    | false =>
      cases h2 : firstV y x with
      | true => simp
      | false => simp
theorem Agr.row {xs ys : List V} (hx : ∀ x ∈ xs, Scal x) (hy : ∀ y ∈ ys, Scal y) : Agr 2 (rkD xs) (rkD ys) (orderV xs ys) ∧ okD 2 (rkD xs) (rkD ys) = true := by
  obtain ⟨b1, b2, b3, b4⟩ := rk_all 0 xs ys hx hy
  exact ⟨⟨b2, (eqv_tup _ _).trans b4, b3⟩, b1⟩
theorem Agr.one {x y : V} (sx : Scal x) (sy : Scal y) : Agr 1 (vkD x) (vkD y) (orderV [x] [y]) ∧ okD 1 (vkD x) (vkD y) = true := by
  obtain ⟨a1, a2, a3, a4⟩ := vk_all sx sy 0
  have e : orderV [x] [y] = if firstV x y = true then -1 else if firstV y x = true then 1 else 0 := by
    unfold orderV
    rfl
  rw [e]
  refine ⟨⟨?_, ?_, ?_⟩, a1⟩
  · rw [a2]
    cases h : firstV x y with
    | true => rfl
    | false => cases h2 : firstV y x with
      | true => rfl
      | false => rfl
  · rw [a4]
    cases h : firstV x y with
    | true => rw [first_asym sx sy h]; rfl
    | false => cases h2 : firstV y x with
      | true => rfl
      | false => rfl
  · rw [a3]
    cases h : firstV x y with
    | true => rw [first_asym sx sy h]; rfl
    | false => cases h2 : firstV y x with
      | true => rfl
      | false => rfl
/-- the order of two keys, as the law reckons it -/
def keyOrd (s : Int) (n : Str) (row : List V) (s' : Int) (n' : Str) (row' : List V) : Int :=
  if (!PyData.eqv (kd2 s n) (kd2 s' n')) = true then (if ltD 1 (kd2 s n) (kd2 s' n') = true then -1 else 1) else orderV row row'
theorem Agr.key {s s' : Int} {n n' : Str} {xs ys : List V} (hx : ∀ x ∈ xs, Scal x) (hy : ∀ y ∈ ys, Scal y) :
    Agr 3 (kD s n xs) (kD s' n' ys) (keyOrd s n xs s' n' ys) ∧ okD 3 (kD s n xs) (kD s' n' ys) = true := by
  obtain ⟨⟨r1, r2, r3⟩, r4⟩ := Agr.row hx hy
  have e2 : PyData.eqv (kd2 s n) (kd2 s' n') = ((s == s') && (n == n')) := by
    unfold kd2
    rw [eqv_tup, eqv_cons, eqv_cons, eqv_nil, eqv_int, eqv_str, Bool.and_true]
  have l2 : ltD 1 (kd2 s n) (kd2 s' n') = if (s == s') = true then (if (n == n') = true then false else decide (n.cps.toList < n'.cps.toList)) else decide (s < s') := by
    simp only [kd2, ltD, ltL, eqv_int, eqv_str]
  have e3 : PyData.eqv (kD s n xs) (kD s' n' ys) = ((s == s') && ((n == n') && PyData.eqv (rkD xs) (rkD ys))) := by
    unfold kD
    rw [eqv_tup, eqv_cons, eqv_cons, eqv_cons, eqv_nil, eqv_int, eqv_str, Bool.and_true]
  have l3 : ltD 3 (kD s n xs) (kD s' n' ys) = if (s == s') = true then (if (n == n') = true then (if PyData.eqv (rkD xs) (rkD ys) = true then false else ltD 2 (rkD xs) (rkD ys)) else decide (n.cps.toList < n'.cps.toList)) else decide (s < s') := by
    simp only [kD, ltD, ltL, eqv_int, eqv_str]
  have g3 : gtD 3 (kD s n xs) (kD s' n' ys) = if (s == s') = true then (if (n == n') = true then (if PyData.eqv (rkD xs) (rkD ys) = true then false else gtD 2 (rkD xs) (rkD ys)) else decide (n'.cps.toList < n.cps.toList)) else decide (s' < s) := by
    simp only [kD, gtD, gtL, eqv_int, eqv_str]
  have o3 : okD 3 (kD s n xs) (kD s' n' ys) = if (s == s') = true then (if (n == n') = true then (if PyData.eqv (rkD xs) (rkD ys) = true then true else okD 2 (rkD xs) (rkD ys)) else true) else true := by
    simp only [kD, okD, okL, eqv_int, eqv_str]
  have it := int_tri s s'
  have st := str_tri n n'
  unfold keyOrd
  rw [e2, l2]
  refine ⟨⟨?_, ?_, ?_⟩, ?_⟩
  · rw [l3]
    cases h1 : (s == s') with
    | false => cases h : decide (s < s') <;> simp
    | true =>
      cases h2 : (n == n') with
      | false => cases h : decide (n.cps.toList < n'.cps.toList) <;> simp
      | true =>
        rw [r1, r2]
        by_cases z : orderV xs ys = 0
        · simp [z]
        · simp [z]
  · rw [e3]
    cases h1 : (s == s') with
    | false => cases h : decide (s < s') <;> simp
    | true =>
      cases h2 : (n == n') with
      | false => cases h : decide (n.cps.toList < n'.cps.toList) <;> simp
      | true => rw [r2]; simp
  · rw [g3]
    cases h1 : (s == s') with
    | false =>
      rw [h1] at it
      cases h : decide (s < s') with
      | false =>
        rw [h] at it
        simp at it
        simp [it]
      | true =>
        have z : s < s' := of_decide_eq_true h
        simp
        omega
    | true =>
      cases h2 : (n == n') with
      | false =>
        rw [h2] at st
        cases h : decide (n.cps.toList < n'.cps.toList) with
        | false =>
          rw [h] at st
          simp at st
          simp [st]
        | true =>
          have z : n.cps.toList < n'.cps.toList := of_decide_eq_true h
          have z2 := List.lt_asymm z
          simp [z2]
      | true =>
        rw [r3, r2]
        by_cases z : orderV xs ys = 0
        · simp [z]
        · simp [z]
  · rw [o3, r4]
    split
    · split
      · split <;> rfl
      · rfl
    · rfl
end K1
namespace K1
open PySem PySem.Spec PyProof.Rows L2 Ow Tlz
/-! data without lists -/
mutual
def noL : PyData → Bool
  | .list _ => false
  | .tuple xs => noLs xs
  | _ => true
def noLs : List PyData → Bool
  | [] => true
  | x :: xs => noL x && noLs xs
end
mutual
theorem Dp.tk {K : PySem.W.Frag} {H H' : Hp} (t : Tk K H H') : ∀ (d : PyData) (v : V), noL d = true → Dp K H v d → Dp K H' v d
  | .none, _, _, .non => .non
  | .bool b, _, _, .bl _ => .bl b
  | .int i, _, _, .int _ => .int i
  | .str x, _, _, .str _ => .str x
  | .list _, _, h, _ => absurd h (by rw [noL]; exact Bool.false_ne_true)
  | .tuple xs, _, h, .tup s a => .tup (t _ _ s) (DpAll.tk t xs _ (by rw [noL] at h; exact h) a)
theorem DpAll.tk {K : PySem.W.Frag} {H H' : Hp} (t : Tk K H H') : ∀ (ds : List PyData) (vs : List V), noLs ds = true → DpAll K H vs ds → DpAll K H' vs ds
  | [], _, _, .nil => .nil
  | d :: ds, _, h, .cons a b => by
    rw [noLs, Bool.and_eq_true] at h
    exact .cons (Dp.tk t d _ h.1 a) (DpAll.tk t ds _ h.2 b)
end
theorem DpAll.snoc {K : PySem.W.Frag} {H : Hp} : ∀ {vs : List V} {ds : List PyData} {v : V} {d : PyData}, DpAll K H vs ds → Dp K H v d → DpAll K H (vs ++ [v]) (ds ++ [d])
  | _, _, _, _, .nil, h => .cons h .nil
  | _, _, _, _, .cons a b, h => .cons a (DpAll.snoc b h)
theorem noL_vk (v : V) : noL (vkD v) = true := by
  cases v <;> simp [vkD, noL, noLs]
theorem noLs_vk : ∀ xs : List V, noLs (xs.map vkD) = true
  | [] => by simp [noLs]
  | x :: xs => by rw [List.map_cons, noLs, noL_vk, noLs_vk xs]; rfl
/-- strings of values can be laid -/
theorem Pr.ok {z : Str} (h : Pr z) : PyData.canLay0 (.str z) = true := by
  rw [PyData.canLay0]
  show z.cps.all (fun c => decide (c < 0x110000)) = true
  rw [Array.all_eq_true]
  intro i hi
  have := h z.cps[i] (by simp)
  exact decide_eq_true (by omega)
theorem lay_vk {v : V} (h : Scal v) : (vkD v).canLay0 = true := by
  rcases h with ⟨i, rfl, _⟩ | ⟨z, rfl, p, _⟩
  · simp [vkD, PyData.canLay0, PyData.canLayAll0]
  · have := p.ok
    simp [vkD, PyData.canLay0, PyData.canLayAll0] at this ⊢
    exact this
theorem lays_vk : ∀ {xs : List V}, (∀ x ∈ xs, Scal x) → PyData.canLayAll0 (xs.map vkD) = true
  | [], _ => by simp [PyData.canLayAll0]
  | x :: xs, h => by
    rw [List.map_cons, PyData.canLayAll0, lay_vk (h x List.mem_cons_self), lays_vk fun z m => h z (List.mem_cons_of_mem _ m)]
    rfl
theorem deep_vk (v : V) : (vkD v).depth ≤ 1 := by
  cases v <;> simp [vkD, PyData.depth, PyData.depthAll]
theorem deeps_vk : ∀ xs : List V, PyData.depthAll (xs.map vkD) ≤ 1
  | [] => by simp [PyData.depthAll]
  | x :: xs => by
    rw [List.map_cons, PyData.depthAll]
    exact Nat.max_le.mpr ⟨deep_vk x, deeps_vk xs⟩
theorem lay_rk {xs : List V} (h : ∀ x ∈ xs, Scal x) : (rkD xs).canLay0 = true := by
  unfold rkD
  rw [PyData.canLay0]
  exact lays_vk h
theorem deep_rk (xs : List V) : (rkD xs).depth ≤ 2 := by
  unfold rkD
  rw [PyData.depth]
  have := deeps_vk xs
  omega
theorem lay_k {s : Int} {n : Str} {xs : List V} (p : Pr n) (h : ∀ x ∈ xs, Scal x) : (kD s n xs).canLay0 = true := by
  have a := p.ok
  have b := lay_rk h
  unfold kD
  rw [PyData.canLay0, PyData.canLayAll0, PyData.canLayAll0, PyData.canLayAll0, PyData.canLayAll0, a, b]
  simp [PyData.canLay0]
theorem deep_k (s : Int) (n : Str) (xs : List V) : (kD s n xs).depth ≤ 3 := by
  have := deep_rk xs
  unfold kD
  rw [PyData.depth, PyData.depthAll, PyData.depthAll, PyData.depthAll, PyData.depthAll, PyData.depth, PyData.depth]
  omega
theorem noL_rk (xs : List V) : noL (rkD xs) = true := by
  unfold rkD
  rw [noL]
  exact noLs_vk xs
theorem noL_k (s : Int) (n : Str) (xs : List V) : noL (kD s n xs) = true := by
  unfold kD
  rw [noL, noLs, noLs, noLs, noLs, noL_rk]
  simp [noL]

/-- x is an item with the key s, n, row -/
def ItemAt (K : PySem.W.Frag) (H : Hp) (x : V) (s : Int) (n : Str) (row : List V) : Prop := ∃ (a : Addr) (xs : List V), x = .ref a ∧ SqT K H a xs ∧
  Pr n ∧ (∀ y ∈ row, Scal y) ∧ row.length ≤ 1000 ∧
  ((∃ rest, xs = .str "relation" :: .str n :: rest ∧ s = 0 ∧ row = []) ∨ (∃ rest, xs = .str "structure" :: .str n :: rest ∧ s = 2 ∧ row = []) ∨
   (∃ rest, xs = .str "layout" :: .str n :: rest ∧ s = 3 ∧ row = []) ∨ ∃ r : Addr, xs = [.str "fact", .str n, .ref r] ∧ s = 1 ∧ SqT K H r row)
def KeyAt (K : PySem.W.Frag) (H : Hp) (x : V) (s : Int) (n : Str) (row : List V) : Prop := ∃ a r : Addr, x = .ref a ∧
  SqT K H a [.int s, .str n, .ref r] ∧ SqT K H r row ∧ Pr n ∧ (∀ y ∈ row, Scal y) ∧ row.length ≤ 1000
theorem ItemAt.tk {K : PySem.W.Frag} {H H' : Hp} {x : V} {s : Int} {n : Str} {row : List V} (t : Tk K H H') (h : ItemAt K H x s n row) : ItemAt K H' x s n row := by
  obtain ⟨a, xs, e, h1, h2, h3, h4, h5⟩ := h
  refine ⟨a, xs, e, t _ _ h1, h2, h3, h4, ?_⟩
  rcases h5 with h | h | h | ⟨r, e1, e2, e3⟩
  · exact .inl h
  · exact .inr (.inl h)
  · exact .inr (.inr (.inl h))
  · exact .inr (.inr (.inr ⟨r, e1, e2, t _ _ e3⟩))
theorem KeyAt.tk {K : PySem.W.Frag} {H H' : Hp} {x : V} {s : Int} {n : Str} {row : List V} (t : Tk K H H') (h : KeyAt K H x s n row) : KeyAt K H' x s n row := by
  obtain ⟨a, r, e, h1, h2, h3⟩ := h
  exact ⟨a, r, e, t _ _ h1, t _ _ h2, h3⟩
def spLKey (K : PySem.W.Frag) : Sp := fun vs H Q _ => ∃ (x : V) (s : Int) (n : Str) (row : List V), vs = [x] ∧ ItemAt K H x s n row ∧
  Mak H Q fun y H' => KeyAt K H' y s n row
def spVKey (K : PySem.W.Frag) : Sp := fun vs H Q _ => ∃ x : V, vs = [x] ∧ Scal x ∧ Mak H Q fun y H' => Dp K H' y (vkD x)
def spRKey (K : PySem.W.Frag) : Sp := fun vs H Q _ => ∃ (a : Addr) (xs : List V), vs = [.ref a] ∧ SqT K H a xs ∧ (∀ x ∈ xs, Scal x) ∧ xs.length ≤ 1000 ∧
  Mak H Q fun y H' => Dp K H' y (rkD xs)
def spKOrd (K : PySem.W.Frag) : Sp := fun vs H Q _ => ∃ (x : V) (s : Int) (n : Str) (row : List V), vs = [x] ∧ KeyAt K H x s n row ∧
  Mak H Q fun y H' => Dp K H' y (kD s n row)
def spLOrd (K : PySem.W.Frag) : Sp := fun vs H Q _ => ∃ (x y : V) (s s' : Int) (n n' : Str) (row row' : List V), vs = [x, y] ∧ KeyAt K H x s n row ∧ KeyAt K H y s' n' row' ∧
  Mak H Q fun z _ => z = .int (keyOrd s n row s' n' row')
def spItem (K : PySem.W.Frag) : Sp := fun vs H Q _ => ∃ p d : Addr, vs = [.ref p] ∧ Rng d H p ∧
  Drw p d H Q fun x H' => ∃ (s : Int) (n : Str) (row : List V), ItemAt K H' x s n row
def spAgrees (K : PySem.W.Frag) : Sp := fun vs H Q _ => ∃ (x y : V) (n : Nat) (ds es : List PyData) (o : Int), vs = [x, y, .int o] ∧
  Cp K H n x y (.tuple ds) (.tuple es) ∧ Agr n (.tuple ds) (.tuple es) o ∧ Mak H Q fun z _ => z = .bl true
/-- two equal data without lists, n deep at most -/
def spSame (K : PySem.W.Frag) (n : Nat) : Sp := fun vs H Q _ => ∃ (x y : V) (d : PyData), vs = [x, y] ∧ Dp K H x d ∧ Dp K H y d ∧ d.canLay0 = true ∧ noL d = true ∧
  d.depth ≤ n ∧ n ≤ 50 ∧ Mak H Q fun z _ => z = .bl true
end K1
namespace K1
open PySem PySem.Spec PyProof.Rows L2 Ow
abbrev s_law_first : Stmt := topS 25
abbrev N_law_first : List Str := ["one", "other"]
theorem sc_law_first : FnScope N_law_first ["one", "other"] (defScope s_law_first) := ⟨rfl, rfl, rfl, by decide +kernel, rfl, by decide +kernel, by decide +kernel⟩
section
variable {P : Program} {w : World} {K : PySem.W.Frag} {mg : Str → Option Value} {base : Heap}
theorem ok_first {f : Addr} {fd : FuncData} (F : Fun K "_law_first" "_law_first" s_law_first f fd) (T : Bl mg) :
    FnOk P w K mg base CX0 1 f fd ["one", "other"] spFirst := by
  refine F.ok sc_law_first (fun vs H Q E h => ?_) (fun cdv A outer s H vs Q E hr h => ?_)
  · obtain ⟨a, b, rfl, _⟩ := h
    rfl
  · obtain ⟨a, b, rfl, sa, sb, q⟩ := h
    refine ⟨_, (pss_cons (ps_if (pt_cmpR op_ne (pe_callB call_isi (by rfl) T.isinstance (by decide +kernel) (pa_cons (pv 0) (pa_cons (pe_ty "int" (by rfl) T.int (by decide +kernel)) pa_nil))) (pe_callB call_isi (by rfl) T.isinstance (by decide +kernel) (pa_cons (pv 1) (pa_cons (pe_ty "int" (by rfl) T.int (by decide +kernel)) pa_nil))) (nomark _)) (pss_one (ps_ret (pe_callB call_isi (by rfl) T.isinstance (by decide +kernel) (pa_cons (pv 0) (pa_cons (pe_ty "int" (by rfl) T.int (by decide +kernel)) pa_nil))))) pss_nil)
      (pss_one (ps_ret (pe_cmpR (op_lt.or op_lt_str) (pv 0) (pv 1) (nomark _))))), ?_⟩
    rcases sa with ⟨i, rfl, _⟩ | ⟨x, rfl, _⟩
    · rcases sb with ⟨j, rfl, _⟩ | ⟨y, rfl, _⟩
      · refine ⟨_, rfl, _, _, .type "int", .type "int", true, rfl, .ty _, .base (.int i), kit_ty (by decide +kernel), ?_⟩
        refine ⟨_, rfl, _, _, .type "int", .type "int", true, rfl, .ty _, .base (.int j), kit_ty (by decide +kernel), ?_⟩
        refine ⟨rfl, _, rfl, ite2 (fun e => absurd e (by decide)) (fun _ => ?_)⟩
        exact ⟨_, rfl, _, rfl, .inl ⟨i, j, rfl, rfl, q⟩⟩
      · refine ⟨_, rfl, _, _, .type "int", .type "int", true, rfl, .ty _, .base (.int i), kit_ty (by decide +kernel), ?_⟩
        refine ⟨_, rfl, _, _, .type "str", .type "int", false, rfl, .ty _, .base (.str y), kit_ty (by decide +kernel), ?_⟩
        refine ⟨rfl, _, rfl, ite2 (fun _ => ?_) (fun e => absurd (by decide) e)⟩
        refine ⟨_, rfl, _, _, .type "int", .type "int", true, rfl, .ty _, .base (.int i), kit_ty (by decide +kernel), ?_⟩
        exact q
    · rcases sb with ⟨j, rfl, _⟩ | ⟨y, rfl, _⟩
      · refine ⟨_, rfl, _, _, .type "str", .type "int", false, rfl, .ty _, .base (.str x), kit_ty (by decide +kernel), ?_⟩
        refine ⟨_, rfl, _, _, .type "int", .type "int", true, rfl, .ty _, .base (.int j), kit_ty (by decide +kernel), ?_⟩
        refine ⟨rfl, _, rfl, ite2 (fun _ => ?_) (fun e => absurd (by decide) e)⟩
        refine ⟨_, rfl, _, _, .type "str", .type "int", false, rfl, .ty _, .base (.str x), kit_ty (by decide +kernel), ?_⟩
        exact q
      · refine ⟨_, rfl, _, _, .type "str", .type "int", false, rfl, .ty _, .base (.str x), kit_ty (by decide +kernel), ?_⟩
        refine ⟨_, rfl, _, _, .type "str", .type "int", false, rfl, .ty _, .base (.str y), kit_ty (by decide +kernel), ?_⟩
        refine ⟨rfl, _, rfl, ite2 (fun e => absurd e (by decide)) (fun _ => ?_)⟩
        exact ⟨_, rfl, _, rfl, .inr ⟨x, y, rfl, rfl, q⟩⟩
end
end K1
namespace K1
open PySem PySem.Spec PyProof.Rows L2 Ow
abbrev s_law_order : Stmt := topS 26
abbrev N_law_order : List Str := ["first", "second", "k"]
theorem sc_law_order : FnScope N_law_order ["first", "second"] (defScope s_law_order) := ⟨rfl, rfl, rfl, by decide +kernel, rfl, by decide +kernel, by decide +kernel⟩
theorem order_end : ∀ xs ys : List V, (xs = [] ∨ ys = []) →
    orderV xs ys = (if decide (ys.length < xs.length) = true then 1 else 0) - (if decide (xs.length < ys.length) = true then 1 else 0)
  | [], [], _ => rfl
  | [], y :: ys, _ => by simp [orderV]
  | x :: xs, [], _ => by simp [orderV]
  | x :: xs, y :: ys, h => by simp at h
section
variable {P : Program} {w : World} {K : PySem.W.Frag} {mg : Str → Option Value} {base : Heap}
theorem ok_order {f : Addr} {fd : FuncData} (F : Fun K "_law_order" "_law_order" s_law_order f fd) (T : Bl mg)
    (D_law_first : Kn P w K mg base 1 "_law_first" ["one", "other"] spFirst) :
    FnOk P w K mg base CX0 2 f fd ["first", "second"] (spOrder K) := by
  refine F.ok sc_law_order (fun vs H Q E h => ?_) (fun cdv A outer s H vs Q E hr h => ?_)
  · obtain ⟨a, b, xs, ys, rfl, _⟩ := h
    rfl
  · obtain ⟨a, b, xs, ys, rfl, hx, hy, bx, sx, sy, q⟩ := h
    refine ⟨_, (pss_cons (ps_for PassesOwn.never rfl (pi_range1 (by rfl) T.range (pa_cons (pe_callB (call_min2 rfl) (by rfl) T.min (by decide +kernel) (pa_cons (pe_callB call_len_seq (by rfl) T.len PySem.boot_len (pa_cons (pv 0) pa_nil)) (pa_cons (pe_callB call_len_seq (by rfl) T.len PySem.boot_len (pa_cons (pv 1) pa_nil)) pa_nil))) pa_nil)) (pg_name (i := 2) sc_law_order.nd rfl (.inl rfl)) (pss_cons (ps_if (pt_val (pe_kn D_law_first hr (pa_cons (pe_ix ix_tup (pv 0) (pv 2) (fun _ _ => rfl)) (pa_cons (pe_ix ix_tup (pv 1) (pv 2) (fun _ _ => rfl)) pa_nil)))) (pss_one (ps_ret (pe_un un_neg pe_int))) pss_nil)
      (pss_one (ps_if (pt_val (pe_kn D_law_first hr (pa_cons (pe_ix ix_tup (pv 1) (pv 2) (fun _ _ => rfl)) (pa_cons (pe_ix ix_tup (pv 0) (pv 2) (fun _ _ => rfl)) pa_nil)))) (pss_one (ps_ret pe_int)) pss_nil))))
      (pss_one (ps_ret (pe_op op_sub (pe_callTy call_int1 (by rfl) T.int (by decide +kernel) (pa_cons (pe_cmpR op_gt (pe_callB call_len_seq (by rfl) T.len PySem.boot_len (pa_cons (pv 0) pa_nil)) (pe_callB call_len_seq (by rfl) T.len PySem.boot_len (pa_cons (pv 1) pa_nil)) (nomark _)) pa_nil)) (pe_callTy call_int1 (by rfl) T.int (by decide +kernel) (pa_cons (pe_cmpR op_lt (pe_callB call_len_seq (by rfl) T.len PySem.boot_len (pa_cons (pv 0) pa_nil)) (pe_callB call_len_seq (by rfl) T.len PySem.boot_len (pa_cons (pv 1) pa_nil)) (nomark _)) pa_nil)))))), ?_⟩
    have em : (if (ys.length : Int) < (xs.length : Int) then (ys.length : Int) else (xs.length : Int)) = ((min xs.length ys.length : Nat) : Int) := by
      split <;> omega
    have hmin : min xs.length ys.length ≤ xs.length := Nat.min_le_left _ _
    refine ⟨_, rfl, a, xs, rfl, .inr hx, _, rfl, b, ys, rfl, .inr hy, (xs.length : Int), (ys.length : Int), rfl, ((min xs.length ys.length : Nat) : Int), by rw [em], by omega, by omega,
      for_range (lo := 0) (n := ((min xs.length ys.length : Nat) : Int).toNat) (fun i σ H3 => ∃ y2 : Option V, σ = [some (.ref a), some (.ref b), y2] ∧ H3 = H ∧
        orderV xs ys = orderV (xs.drop i) (ys.drop i)) ⟨none, rfl, rfl, rfl⟩ (fun i σ H3 hi hP => ?_) (fun σ H3 hP => ?_)⟩
    · obtain ⟨y2, rfl, rfl, eo⟩ := hP
      have h1 : i < xs.length := by omega
      have h2 : i < ys.length := by omega
      rw [List.drop_eq_getElem_cons h1, List.drop_eq_getElem_cons h2] at eo
      have ex := at_of (xs := xs) (z := 0 + (i : Int)) (j := i) (by omega) (List.getElem?_eq_getElem h1)
      have ey := at_of (xs := ys) (z := 0 + (i : Int)) (j := i) (by omega) (List.getElem?_eq_getElem h2)
      have s1 := sx _ (List.getElem_mem h1)
      have s2 := sy _ (List.getElem_mem h2)
      refine ⟨_, rfl, _, rfl, a, xs, _, xs[i], rfl, rfl, hx, ex, _, rfl, _, rfl, b, ys, _, ys[i], rfl, rfl, hy, ey, xs[i], ys[i], rfl, s1, s2, _, rfl, ite2 (fun e => ?_) (fun e => ?_)⟩
      · refine ⟨1, rfl, ?_⟩
        have z : orderV xs ys = -1 := by
          rw [eo]
          unfold orderV
          rw [if_pos e]
        rw [z] at q
        exact q
      · refine ⟨_, rfl, _, rfl, b, ys, _, ys[i], rfl, rfl, hy, ey, _, rfl, _, rfl, a, xs, _, xs[i], rfl, rfl, hx, ex, ys[i], xs[i], rfl, s2, s1, _, rfl, ite2 (fun e2 => ?_) (fun e2 => ?_)⟩
        · have z : orderV xs ys = 1 := by
            rw [eo]
            unfold orderV
            rw [if_neg e, if_pos e2]
          rw [z] at q
          exact q
        · refine ⟨_, rfl, rfl, ?_⟩
          rw [eo]
          conv => lhs; unfold orderV
          rw [if_neg e, if_neg e2]
    · obtain ⟨y2, rfl, rfl, eo⟩ := hP
      have eo' : orderV xs ys = orderV (xs.drop (min xs.length ys.length)) (ys.drop (min xs.length ys.length)) := eo
      refine ⟨_, rfl, a, xs, rfl, .inr hx, _, rfl, b, ys, rfl, .inr hy, _, _, rfl, rfl, .inr ⟨_, rfl, _, rfl, a, xs, rfl, .inr hx, _, rfl, b, ys, rfl, .inr hy, _, _, rfl, rfl, .inr ⟨_, rfl, _, _, rfl, rfl, ?_⟩⟩⟩
      have eE := order_end (xs.drop (min xs.length ys.length)) (ys.drop (min xs.length ys.length)) (by
        by_cases h : xs.length ≤ ys.length
        · left; exact List.drop_of_length_le (by omega)
        · right; exact List.drop_of_length_le (by omega))
      have e1 : decide ((ys.drop (min xs.length ys.length)).length < (xs.drop (min xs.length ys.length)).length) = decide ((ys.length : Int) < (xs.length : Int)) := by
        rw [List.length_drop, List.length_drop]
        apply decide_eq_decide.mpr
        omega
      have e2 : decide ((xs.drop (min xs.length ys.length)).length < (ys.drop (min xs.length ys.length)).length) = decide ((xs.length : Int) < (ys.length : Int)) := by
        rw [List.length_drop, List.length_drop]
        apply decide_eq_decide.mpr
        omega
      rw [e1, e2] at eE
      rw [eo'.trans eE] at q
      exact q
end
end K1
namespace K1
open PySem PySem.Spec PyProof.Rows L2 Ow Tlz
abbrev svalue_key : Stmt := topS 2
abbrev Nvalue_key : List Str := ["value"]
theorem scvalue_key : FnScope Nvalue_key ["value"] (defScope svalue_key) := ⟨rfl, rfl, rfl, by decide +kernel, rfl, by decide +kernel, by decide +kernel⟩
abbrev srow_key : Stmt := topS 3
abbrev Nrow_key : List Str := ["row", "value"]
theorem scrow_key : FnScope Nrow_key ["row"] (defScope srow_key) := ⟨rfl, rfl, rfl, by decide +kernel, rfl, by decide +kernel, by decide +kernel⟩
section
variable {P : Program} {w : World} {K : PySem.W.Frag} {mg : Str → Option Value} {base : Heap}
theorem ok_vkey {f : Addr} {fd : FuncData} (F : Fun K "value_key" "value_key" svalue_key f fd) (T : Bl mg) :
    FnOk P w K mg base CX0 1 f fd ["value"] (spVKey K) := by
  refine F.ok scvalue_key (fun vs H Q E h => ?_) (fun cdv A outer s H vs Q E hr h => ?_)
  · obtain ⟨x, rfl, _⟩ := h
    rfl
  · obtain ⟨x, rfl, sx, q⟩ := h
    refine ⟨_, (pss_cons (ps_if (pt_val (pe_callB call_isi (by rfl) T.isinstance (by decide +kernel) (pa_cons (pv 0) (pa_cons (pe_ty "str" (by rfl) T.str (by decide +kernel)) pa_nil)))) (pss_one (ps_ret (pe_tup (pa_cons pe_int (pa_cons (pv 0) pa_nil))))) pss_nil)
      (pss_one (ps_ret (pe_tup (pa_cons pe_int (pa_cons (pv 0) pa_nil)))))), ?_⟩
    rcases sx with ⟨i, rfl, _⟩ | ⟨z, rfl, _⟩
    · refine ⟨_, rfl, _, _, .type "int", .type "str", false, rfl, .ty _, .base (.int i), kit_ty (by decide +kernel), ?_⟩
      refine ⟨_, rfl, iteF ?_⟩
      refine ⟨_, rfl, sz 2, fun t nt => q _ _ ?_ (Same.new nt)⟩
      exact .tup (SqT.of upd_same) (.cons (.int 0) (.cons (.int i) .nil))
    · refine ⟨_, rfl, _, _, .type "str", .type "str", true, rfl, .ty _, .base (.str z), kit_ty (by decide +kernel), ?_⟩
      refine ⟨_, rfl, iteT ?_⟩
      refine ⟨_, rfl, sz 2, fun t nt => q _ _ ?_ (Same.new nt)⟩
      exact .tup (SqT.of upd_same) (.cons (.int 1) (.cons (.str z) .nil))
theorem ok_rkey {f : Addr} {fd : FuncData} (F : Fun K "row_key" "row_key" srow_key f fd) (T : Bl mg)
    (Dvalue_key : Kn P w K mg base 1 "value_key" ["value"] (spVKey K)) :
    FnOk P w K mg base CX0 2 f fd ["row"] (spRKey K) := by
  refine F.ok scrow_key (fun vs H Q E h => ?_) (fun cdv A outer s H vs Q E hr h => ?_)
  · obtain ⟨a, xs, rfl, _⟩ := h
    rfl
  · obtain ⟨a, xs, rfl, hx, sx, lx, q⟩ := h
    refine ⟨_, (pss_one (ps_ret (pe_callTy call_tuple_of (by rfl) T.tuple (by decide +kernel) (pa_cons (pe_lc (own := [("value", 1)]) (g := gName 1) rfl scrow_key.nd (pi_tup (pv 0)) (blkOk_by (own := [("value", 1)]) (N := Nrow_key) (sc := defScope srow_key) (by decide +kernel)) (fun _ _ _ _ _ => pg_name (i := 1) scrow_key.nd rfl (Or.inl rfl)) (fun _ _ _ _ _ => pts_nil) (fun _ _ _ _ _ => (pe_kn Dvalue_key hr (pa_cons (pv 1) pa_nil)))) pa_nil)))), ?_⟩
    refine ⟨_, rfl, a, rfl, ⟨_, hx⟩, fun D nD => lc_tup (K := K) (a := a) (xs := xs) (fun i H4 => ∃ ks : List V, H4 D = some (.lst ks) ∧ ks.length = i ∧ Same H H4 ∧
      DpAll K H4 ks ((xs.take i).map vkD)) ⟨[], upd_same, rfl, Same.new nD, .nil⟩ (fun i H4 hi hP => ?_) (fun i x H4 hi hP => ?_) (fun H4 hP => ?_)⟩
    · obtain ⟨ks, _, _, sm, _⟩ := hP
      exact Tk.same sm _ _ hx
    · obtain ⟨ks, eD, lk, sm, da⟩ := hP
      refine ⟨rfl, ?_⟩
      refine ⟨_, rfl, x, rfl, sx x (List.mem_of_getElem? hi), ?_⟩
      intro y H5 dy s5
      have hl : i < xs.length := (List.getElem?_eq_some_iff.mp hi).1
      have t5 : Tk K H4 H5 := Tk.same s5
      have eD5 := s5 _ _ eD
      refine ⟨ks, eD5, small (m := 1000) (by omega) (by decide), ks ++ [y], upd_same, by rw [List.length_append, lk]; rfl, Same.over (sm.trans s5) nD, ?_⟩
      have t6 : Tk K H5 (upd H5 D (.lst (ks ++ [y]))) := Tk.put eD5
      rw [List.take_add_one, hi]
      rw [List.map_append]
      exact DpAll.snoc (DpAll.tk (t5.trans t6) _ _ (noLs_vk _) da) (Dp.tk t6 _ _ (noL_vk x) dy)
    · obtain ⟨ks, eD, lk, sm, da⟩ := hP
      rw [List.take_length] at da
      refine ⟨D, ks, rfl, .inl ⟨SqL.of eD, fun l nl => q _ _ ?_ (sm.trans (Same.new nl))⟩⟩
      exact .tup (SqT.of upd_same) (DpAll.tk (Tk.same (Same.new nl)) _ _ (noLs_vk _) da)
end
end K1
namespace K1
open PySem PySem.Spec PyProof.Rows L2 Ow
abbrev s_law_mix : Stmt := topS 15
abbrev N_law_mix : List Str := ["cell", "k", "value"]
theorem sc_law_mix : FnScope N_law_mix ["cell", "k"] (defScope s_law_mix) := ⟨rfl, rfl, rfl, by decide +kernel, rfl, by decide +kernel, by decide +kernel⟩
section
variable {P : Program} {w : World} {K : PySem.W.Frag} {mg : Str → Option Value} {base : Heap}
theorem ok_mix {f : Addr} {fd : FuncData} (F : Fun K "_law_mix" "_law_mix" s_law_mix f fd) (T : Bl mg) :
    FnOk P w K mg base CX0 1 f fd ["cell", "k"] spMix := by
  refine F.ok sc_law_mix (fun vs H Q E h => ?_) (fun cdv A outer s H vs Q E hr h => ?_)
  · obtain ⟨c, k, rfl, _⟩ := h
    rfl
  · obtain ⟨c, k, rfl, q⟩ := h
    refine ⟨_, (pss_cons (ps_set (i := 2) sc_law_mix.nd rfl (.inl rfl) (pe_op op_mod (pe_callTy call_int1 (by rfl) T.int (by decide +kernel) (pa_cons (pe_op op_add (pe_op op_add (pe_op op_mul (pe_callTy call_int1 (by rfl) T.int (by decide +kernel) (pa_cons (pv 0) pa_nil)) pe_int) (pe_op op_mul (pv 1) pe_int)) pe_int) pa_nil)) pe_int))
      (pss_cons (ps_set (i := 2) sc_law_mix.nd rfl (.inl rfl) (pe_op op_mod (pe_callTy call_int1 (by rfl) T.int (by decide +kernel) (pa_cons (pe_op op_add (pe_op op_add (pe_op op_mul (pv 2) (pv 2)) (pe_op op_mul (pv 1) pe_int)) pe_int) pa_nil)) pe_int))
      (pss_one (ps_ret (pe_op op_mod (pe_op op_fdiv (pv 2) pe_int) pe_int))))), ?_⟩
    refine ⟨_, rfl, .inl ⟨c, rfl, c, 48271, rfl, rfl, .inr ⟨by decide, by decide⟩, _, rfl, k, 69621, rfl, rfl,
      .inr ⟨by decide, by decide⟩, _, _, rfl, rfl, _, _, rfl, rfl, .inl ⟨_, rfl, _, 2147483647, rfl, rfl, (by show (0 : Int) < 2147483647; decide), ?_⟩⟩⟩
    refine ⟨_, rfl, _, rfl, _, _, rfl, rfl, .inl ⟨by omega, by omega⟩, _, rfl, k, 40692, rfl, rfl,
      .inr ⟨by decide, by decide⟩, _, _, rfl, rfl, _, _, rfl, rfl, .inl ⟨_, rfl, _, 2147483399, rfl, rfl, (by show (0 : Int) < 2147483399; decide), ?_⟩⟩
    refine ⟨_, rfl, _, 5, rfl, rfl, ⟨by decide, by decide⟩, _, 9973, rfl, rfl, (by show (0 : Int) < 9973; decide), ?_⟩
    exact q _ (Int.emod_nonneg _ (by decide)) (Int.emod_lt_of_pos _ (by decide))
end
end K1
namespace K1
open PySem PySem.Spec PyProof.Rows L2 Ow
abbrev s_law_at : Stmt := topS 17
abbrev N_law_at : List Str := ["draws", "index"]
theorem sc_law_at : FnScope N_law_at ["draws", "index"] (defScope s_law_at) := ⟨rfl, rfl, rfl, by decide +kernel, rfl, by decide +kernel, by decide +kernel⟩
section
variable {P : Program} {w : World} {K : PySem.W.Frag} {mg : Str → Option Value} {base : Heap}
theorem ok_at {f : Addr} {fd : FuncData} (F : Fun K "_law_at" "_law_at" s_law_at f fd) (T : Bl mg)
    (D_law_mix : Kn P w K mg base 1 "_law_mix" ["cell", "k"] spMix) :
    FnOk P w K mg base CX0 2 f fd ["draws", "index"] (spAt K) := by
  refine F.ok sc_law_at (fun vs H Q E h => ?_) (fun cdv A outer s H vs Q E hr h => ?_)
  · obtain ⟨d, ds, i, rfl, _⟩ := h
    rfl
  · obtain ⟨d, ds, i, rfl, hd, hi, q⟩ := h
    refine ⟨_, (pss_cons (ps_if (pt_cmpR op_lt (pv 1) (pe_callB call_len_seq (by rfl) T.len PySem.boot_len (pa_cons (pv 0) pa_nil)) (nomark _)) (pss_one (ps_ret (pe_ix ix_list (pv 0) (pv 1) (fun _ _ => rfl)))) pss_nil)
      (pss_cons (ps_if (pt_cmpR op_eq (pe_callB call_len_seq (by rfl) T.len PySem.boot_len (pa_cons (pv 0) pa_nil)) pe_int (nomark _)) (pss_one (ps_ret (pe_kn D_law_mix hr (pa_cons (pv 1) (pa_cons pe_int pa_nil))))) pss_nil)
      (pss_one (ps_ret (pe_kn D_law_mix hr (pa_cons (pe_op op_add (pe_ix ix_list (pv 0) (pe_op op_mod (pe_callTy call_int1 (by rfl) T.int (by decide +kernel) (pa_cons (pv 1) pa_nil)) (pe_callB call_len_seq (by rfl) T.len PySem.boot_len (pa_cons (pv 0) pa_nil))) (fun _ _ => rfl)) (pe_op op_mul (pv 1) pe_int)) (pa_cons (pv 1) pa_nil))))))), ?_⟩
    refine ⟨_, rfl, _, rfl, d, ds.map V.int, rfl, .inl hd, _, _, rfl, rfl, _, rfl, ite2 (fun e => ?_) (fun e => ?_)⟩
    · have e1 : i < ((ds.map V.int).length : Int) := of_decide_eq_true e
      rw [List.length_map] at e1
      have e2 : i.toNat < ds.length := by omega
      refine ⟨_, rfl, _, rfl, d, ds.map V.int, i, .int ds[i.toNat], rfl, rfl, hd, ?_, q _⟩
      exact at_of (j := i.toNat) (by omega) (by rw [List.getElem?_map, List.getElem?_eq_getElem e2]; rfl)
    · refine ⟨_, rfl, d, ds.map V.int, rfl, .inl hd, rfl, _, rfl, ite2 (fun e2 => ?_) (fun e2 => ?_)⟩
      · exact ⟨_, rfl, i, 77, rfl, fun v _ _ => q v⟩
      · have n0 : 0 < ds.length := by
          apply Nat.pos_of_ne_zero
          intro z
          apply e2
          apply decide_eq_true
          rw [List.length_map, z]
          rfl
        have m0 : 0 ≤ i % (ds.length : Int) := Int.emod_nonneg _ (by omega)
        have m1 : i % (ds.length : Int) < ds.length := Int.emod_lt_of_pos _ (by omega)
        have m2 : (i % (ds.length : Int)).toNat < ds.length := by omega
        refine ⟨_, rfl, _, rfl, .inl ⟨_, rfl, _, rfl, d, ds.map V.int, rfl, .inl hd, _, _, rfl, rfl, ?_, d, ds.map V.int, _,
          .int ds[(i % (ds.length : Int)).toNat], rfl, rfl, hd, ?_, _, rfl, i, 131, rfl, rfl, .inr ⟨by decide, by decide⟩, _, _, rfl, rfl, _, rfl, _, _, rfl, fun v _ _ => q v⟩⟩
        · show (0 : Int) < ((ds.map V.int).length : Int)
          rw [List.length_map]
          omega
        · rw [List.length_map]
          exact at_of (j := (i % (ds.length : Int)).toNat) (by omega) (by rw [List.getElem?_map, List.getElem?_eq_getElem m2]; rfl)
end
end K1
namespace K1
open PySem PySem.Spec PyProof.Rows L2 Ow
abbrev s_law_draws : Stmt := topS 16
abbrev N_law_draws : List Str := ["script", "draws", "k", "cell", "place"]
theorem sc_law_draws : FnScope N_law_draws ["script"] (defScope s_law_draws) := ⟨rfl, rfl, rfl, by decide +kernel, rfl, by decide +kernel, by decide +kernel⟩
section
variable {P : Program} {w : World} {K : PySem.W.Frag} {mg : Str → Option Value} {base : Heap}
theorem ok_draws {f : Addr} {fd : FuncData} (F : Fun K "_law_draws" "_law_draws" s_law_draws f fd) (T : Bl mg)
    (D_law_mix : Kn P w K mg base 1 "_law_mix" ["cell", "k"] spMix) :
    FnOk P w K mg base CX0 2 f fd ["script"] (spDraws K) := by
  refine F.ok sc_law_draws (fun vs H Q E h => ?_) (fun cdv A outer s H vs Q E hr h => ?_)
  · obtain ⟨a, ns, rfl, _⟩ := h
    rfl
  · obtain ⟨a, ns, rfl, hS, hlen, q⟩ := h
    refine ⟨_, (pss_cons (ps_set (i := 1) sc_law_draws.nd rfl (.inl rfl) (pe_lst pa_nil))
      (pss_cons (ps_for PassesOwn.never rfl (pi_range1 (by rfl) T.range (pa_cons (pe_callB (call_min2 rfl) (by rfl) T.min (by decide +kernel) (pa_cons pe_int (pa_cons (pe_callB call_len_seq (by rfl) T.len PySem.boot_len (pa_cons (pv 0) pa_nil)) pa_nil))) pa_nil)) (pg_name (i := 2) sc_law_draws.nd rfl (.inl rfl)) (pss_cons (ps_set (i := 3) sc_law_draws.nd rfl (.inl rfl) (pe_callTy call_int1 (by rfl) T.int (by decide +kernel) (pa_cons (pe_ix ix_list (pv 0) (pv 2) (fun _ _ => rfl)) pa_nil)))
      (pss_one (ps_if (pt_cmpR op_lt (pv 3) (pe_op op_pow pe_int pe_int) (nomark _)) (pss_one (ps_expr (pe_bm PySem.F.plainAttrs_list PySem.F.slot_list_append PySem.F.type_list_append mt_append (pv 1) (pa_cons (pe_kn D_law_mix hr (pa_cons (pv 3) (pa_cons (pv 2) pa_nil))) pa_nil)))) (pss_one (ps_for PassesOwn.never rfl (pi_range1 (by rfl) T.range (pa_cons pe_int pa_nil)) (pg_name (i := 4) sc_law_draws.nd rfl (.inl rfl)) (pss_one (ps_if (pt_cmpR op_gt (pv 3) pe_int (nomark _)) (pss_cons (ps_expr (pe_bm PySem.F.plainAttrs_list PySem.F.slot_list_append PySem.F.type_list_append mt_append (pv 1) (pa_cons (pe_op op_mod (pe_callTy call_int1 (by rfl) T.int (by decide +kernel) (pa_cons (pv 3) pa_nil)) pe_int) pa_nil)))
      (pss_one (ps_set (i := 3) sc_law_draws.nd rfl (.inl rfl) (pe_op op_fdiv (pv 3) pe_int)))) pss_nil))))))))
      (pss_one (ps_ret (pv 1))))), ?_⟩
    refine ⟨Nat.zero_le _, fun o no => ?_⟩
    have s1 : Same H (upd H o (.lst [])) := Same.new no
    have en : (if ((ns.map V.int).length : Int) < 63 then ((ns.map V.int).length : Int) else 63) = (ns.length : Int) := by
      rw [List.length_map]
      split <;> omega
    refine ⟨_, rfl, a, ns.map V.int, rfl, .inl (s1.seq hS), 63, ((ns.map V.int).length : Int), rfl, (ns.length : Int), by rw [en], by omega, by omega,
      for_range (lo := 0) (n := (ns.length : Int).toNat) (fun i σ H3 => ∃ (y2 y3 y4 : Option V) (ds : List Int), σ = [some (.ref a), some (.ref o), y2, y3, y4] ∧
        Same H H3 ∧ H3 o = some (.lst (ds.map V.int)) ∧ ds.length ≤ 60 * i) ⟨none, none, none, [], rfl, s1, upd_same, Nat.zero_le _⟩ (fun i σ H3 hi hP => ?_) (fun σ H3 hP => ?_)⟩
    · obtain ⟨y2, y3, y4, ds, rfl, sm, eo, hl⟩ := hP
      have hi' : i < ns.length := by omega
      have g : (ns.map V.int)[i]? = some (.int ns[i]) := by
        rw [List.getElem?_map, List.getElem?_eq_getElem hi']
        rfl
      refine ⟨_, rfl, _, rfl, a, ns.map V.int, _, .int ns[i], rfl, rfl, sm.seq hS, at_of (j := i) (by omega) g, .inl ⟨_, rfl, ?_⟩⟩
      refine ⟨_, rfl, 10, 18, rfl, rfl, ⟨by decide, by decide, by decide⟩, _, _, rfl, rfl, _, rfl, ite2 (fun e => ?_) (fun e => ?_)⟩
      · refine ⟨_, rfl, .inl ⟨rfl, _, .inl (.inl eo)⟩, _, rfl, _, rfl, _, _, rfl, fun v v0 v1 => ⟨o, ds.map V.int, .int v, rfl, rfl, eo, ?_, ?_⟩⟩
        · rw [List.length_map]
          exact small hl (by omega)
        · exact ⟨_, _, _, ds ++ [v], rfl, Same.over sm no, by rw [upd_same, List.map_append]; rfl, by rw [List.length_append]; show ds.length + 1 ≤ _; omega⟩
      · refine ⟨60, rfl, by decide, by decide, for_range (lo := 0) (n := (60 : Int).toNat) (fun j σ H4 => ∃ (c : Int) (y5 : Option V) (es : List Int), σ = [some (.ref a), some (.ref o), some (.int (0 + (i : Int))), some (.int c), y5] ∧
          Same H H4 ∧ H4 o = some (.lst (es.map V.int)) ∧ es.length ≤ 60 * i + j) ⟨ns[i], y4, ds, rfl, sm, eo, hl⟩ (fun j σ H4 hj hP => ?_) (fun σ H4 hP => ?_)⟩
        · obtain ⟨c, y5, es, rfl, sm4, eo4, hl4⟩ := hP
          have hj' : j < 60 := hj
          refine ⟨_, rfl, _, _, rfl, rfl, _, rfl, ite2 (fun e2 => ?_) (fun e2 => ?_)⟩
          · refine ⟨_, rfl, .inl ⟨rfl, _, .inl (.inl eo4)⟩, _, rfl, .inl ⟨c, rfl, c, 9973, rfl, rfl, (by show (0 : Int) < 9973; decide), o, es.map V.int, _, rfl, rfl, eo4, ?_, ?_⟩⟩
            · rw [List.length_map]
              exact small hl4 (by omega)
            · refine ⟨_, rfl, c, 9973, rfl, rfl, ⟨by decide, by decide⟩, ?_⟩
              exact ⟨c / 9973, _, es ++ [c % 9973], rfl, Same.over sm4 no, by rw [upd_same, List.map_append]; rfl, by rw [List.length_append]; show es.length + 1 ≤ _; omega⟩
          · exact ⟨c, _, es, rfl, sm4, eo4, by omega⟩
        · obtain ⟨c, y5, es, rfl, sm4, eo4, hl4⟩ := hP
          have hl5 : es.length ≤ 60 * i + 60 := hl4
          exact ⟨_, _, _, es, rfl, sm4, eo4, by omega⟩
    · obtain ⟨y2, y3, y4, ds, rfl, sm, eo, hl⟩ := hP
      exact ⟨_, rfl, q H3 o ds sm no eo⟩
end
end K1
namespace K1
open PySem PySem.Spec PyProof.Rows L2 Ow
abbrev s_law_next : Stmt := topS 21
abbrev N_law_next : List Str := ["state", "limit"]
theorem sc_law_next : FnScope N_law_next ["state", "limit"] (defScope s_law_next) := ⟨rfl, rfl, rfl, by decide +kernel, rfl, by decide +kernel, by decide +kernel⟩
section
variable {P : Program} {w : World} {K : PySem.W.Frag} {mg : Str → Option Value} {base : Heap}
theorem ok_next {f : Addr} {fd : FuncData} (F : Fun K "_law_next" "_law_next" s_law_next f fd) (T : Bl mg)
    (D_law_at : Kn P w K mg base 2 "_law_at" ["draws", "index"] (spAt K)) :
    FnOk P w K mg base CX0 3 f fd ["state", "limit"] spNext := by
  refine F.ok sc_law_next (fun vs H Q E h => ?_) (fun cdv A outer s H vs Q E hr h => ?_)
  · obtain ⟨p, d, l, rfl, _⟩ := h
    rfl
  · obtain ⟨p, d, l, rfl, hl, ⟨ds, k, hp, hk, hd⟩, q⟩ := h
    have nd := Rng.ne hp hd
    refine ⟨_, (pss_cons (ps_augS (pv 0) pe_int pget_list pe_int ip_add set_list)
      (pss_one (ps_ret (pe_op op_mod (pe_kn D_law_at hr (pa_cons (pe_ix ix_list (pv 0) pe_int (fun _ _ => rfl)) (pa_cons (pe_ix ix_list (pv 0) pe_int (fun _ _ => rfl)) pa_nil))) (pv 1))))), ?_⟩
    refine ⟨_, rfl, p, [.ref d, .int k], 1, .int k, rfl, rfl, SqL.of hp, rfl, k, 1, rfl, rfl, p, [.ref d, .int k], 1, 1, rfl, rfl, hp, rfl, ?_⟩
    have e1 : (upd H p (.lst [.ref d, .int (k + 1)])) d = some (.lst (ds.map V.int)) := by
      rw [upd_ne nd]
      exact hd
    refine ⟨_, rfl, p, [.ref d, .int (k + 1)], 0, .ref d, rfl, rfl, SqL.of upd_same, rfl, _, rfl, p, [.ref d, .int (k + 1)], 1, .int (k + 1), rfl, rfl, SqL.of upd_same, rfl,
      d, ds, k + 1, rfl, SqL.of e1, by omega, fun v => ⟨_, rfl, v, l, rfl, rfl, hl, ?_⟩⟩
    exact q _ _ ⟨_, rfl, Int.emod_nonneg _ (by omega), Int.emod_lt_of_pos _ hl⟩ Gw.put ⟨ds, k + 1, upd_same, by omega, e1⟩
end
end K1
namespace K1
open PySem PySem.Spec PyProof.Rows L2 Ow
abbrev s_law_text : Stmt := topS 22
abbrev N_law_text : List Str := ["state", "most", "chars", "start", "step", "k"]
theorem sc_law_text : FnScope N_law_text ["state", "most"] (defScope s_law_text) := ⟨rfl, rfl, rfl, by decide +kernel, rfl, by decide +kernel, by decide +kernel⟩
theorem join_len : ∀ (ys : List Str) (n : Nat), (∀ y ∈ ys, y.length ≤ 1) → ys.length ≤ n → (ys.map (·.length)).sum ≤ n
  | [], _, _, _ => Nat.zero_le _
  | y :: r, 0, _, h => by simp at h
  | y :: r, n + 1, h, hl => by
    have ih := join_len r n (fun z hz => h z (List.mem_cons_of_mem _ hz)) (by simpa using hl)
    have h1 := h y List.mem_cons_self
    rw [List.map_cons, List.sum_cons]
    omega
section
variable {P : Program} {w : World} {K : PySem.W.Frag} {mg : Str → Option Value} {base : Heap}
theorem ok_text {f : Addr} {fd : FuncData} (F : Fun K "_law_text" "_law_text" s_law_text f fd) (T : Bl mg)
    (D_law_next : Kn P w K mg base 3 "_law_next" ["state", "limit"] spNext) :
    FnOk P w K mg base CX0 4 f fd ["state", "most"] spText := by
  refine F.ok sc_law_text (fun vs H Q E h => ?_) (fun cdv A outer s H vs Q E hr h => ?_)
  · obtain ⟨p, d, m, rfl, _⟩ := h
    rfl
  · obtain ⟨p, d, m, rfl, hm, rg, q⟩ := h
    refine ⟨_, (pss_cons (ps_set (i := 2) sc_law_text.nd rfl (.inr rfl) pe_str)
      (pss_cons (ps_set (i := 3) sc_law_text.nd rfl (.inr rfl) (pe_kn D_law_next hr (pa_cons (pv 0) (pa_cons pe_int pa_nil))))
      (pss_cons (ps_set (i := 4) sc_law_text.nd rfl (.inr rfl) (pe_kn D_law_next hr (pa_cons (pv 0) (pa_cons pe_int pa_nil))))
      (pss_one (ps_ret (pe_join pe_str (pe_lc (own := [("k", 5)]) (g := gName 5) rfl sc_law_text.nd (pi_range1 (by rfl) T.range (pa_cons (pe_kn D_law_next hr (pa_cons (pv 0) (pa_cons (pe_op op_add (pv 1) pe_int) pa_nil))) pa_nil)) (blkOk_by (own := [("k", 5)]) (N := N_law_text) (sc := defScope s_law_text) (by decide +kernel)) (fun _ _ _ _ _ => pg_name (i := 5) sc_law_text.nd rfl (Or.inl rfl)) (fun _ _ _ _ _ => pts_nil) (fun _ _ _ _ _ => (pe_ix ix_str (pv 2) (pe_op op_mod (pe_op op_add (pv 3) (pe_op op_mul (pv 4) (pv 5))) pe_int) (fun _ _ => rfl)))))))))), ?_⟩
    refine ⟨_, rfl, p, d, 94, rfl, by decide, rg, ?_⟩
    rintro x1 H1 ⟨b, rfl, b0, b1⟩ gw1 rg1
    refine ⟨_, rfl, p, d, 94, rfl, by decide, rg1, ?_⟩
    rintro x2 H2 ⟨c, rfl, c0, c1⟩ gw2 rg2
    refine ⟨⟨_, rfl⟩, _, rfl, _, rfl, (m : Int), 1, rfl, rfl, p, d, (m : Int) + 1, rfl, by omega, rg2, ?_⟩
    rintro x3 H3 ⟨n, rfl, n0, n1⟩ gw3 rg3
    have gw : Gw p H H3 := (gw1.trans gw2).trans gw3
    refine ⟨n, rfl, by omega, by omega, fun D nD => lc_range (lo := 0) (n := n.toNat) (fun i H4 => ∃ ys : List Str, H4 D = some (.lst (ys.map V.str)) ∧
      ys.length = i ∧ (∀ y ∈ ys, y.length ≤ 1 ∧ Pr y) ∧ Gw p H H4 ∧ Rng d H4 p) ⟨[], upd_same, rfl, fun _ z => (nomatch z), Gw.over gw (gw.free nD (rg3.free nD).1), rg3.same (Same.new nD)⟩ (fun i H4 hi hP => ?_) (fun H4 hP => ?_)⟩
    · obtain ⟨ys, eD, ly, l1, gw4, rg4⟩ := hP
      refine ⟨rfl, ?_⟩
      refine ⟨_, rfl, _, rfl, _, rfl, _, rfl, c, _, rfl, rfl, .inl ⟨by omega, by omega⟩, _, _, rfl, rfl, _, 94, rfl, rfl, (by show (0 : Int) < 94; decide), ?_⟩
      obtain ⟨ch, hch, mch⟩ := at_in (xs := (PySem.Str.ofString " !\"#$&'()*+,-./0123456789:;<=>?@ABCDEFGHIJKLMNOPQRSTUVWXYZ[\\]^_`abcdefghijklmnopqrstuvwxyz{|}~").cps.toList)
        (v := (b + c * (0 + (i : Int))) % 94) (Int.emod_nonneg _ (by decide)) (by
          rw [show (PySem.Str.ofString " !\"#$&'()*+,-./0123456789:;<=>?@ABCDEFGHIJKLMNOPQRSTUVWXYZ[\\]^_`abcdefghijklmnopqrstuvwxyz{|}~").cps.toList.length = 94 by decide +kernel]
          exact Int.emod_lt_of_pos _ (by decide))
      refine ⟨_, _, ch, rfl, rfl, by decide +kernel, hch, ys.map V.str, eD, ?_, ?_⟩
      · rw [List.length_map]
        exact small (m := 1000) (by omega) (by decide)
      · refine ⟨ys ++ [⟨#[ch]⟩], by rw [upd_same, List.map_append]; rfl, by rw [List.length_append, ly]; rfl, fun y hy => ?_, ?_, ?_⟩
        · rcases List.mem_append.mp hy with h | h
          · exact l1 y h
          · rw [List.mem_singleton.mp h]
            refine ⟨Nat.le_refl _, fun z hz => ?_⟩
            have ez : z = ch := List.mem_singleton.mp hz
            rw [ez]
            exact (by decide +kernel : ∀ c ∈ (PySem.Str.ofString " !\"#$&'()*+,-./0123456789:;<=>?@ABCDEFGHIJKLMNOPQRSTUVWXYZ[\\]^_`abcdefghijklmnopqrstuvwxyz{|}~").cps.toList, 32 ≤ c ∧ c < 127 ∧ c ≠ 37) ch mch
        · exact Gw.over gw4 (gw.free nD (rg3.free nD).1)
        · exact rg4.upd (rg3.free nD)
    · obtain ⟨ys, eD, ly, l1, gw4, rg4⟩ := hP
      have hs : (ys.map (·.length)).sum ≤ m := join_len ys m (fun y hy => (l1 y hy).1) (by omega)
      refine ⟨_, D, ys, rfl, rfl, .inl (SqL.of eD), ?_, ?_⟩
      · show (ys.map (·.length)).sum + ys.length * 0 ≤ _
        omega
      · exact q _ _ ⟨_, rfl, Pr.join fun y hy => (l1 y hy).2, by rw [join_size]; exact hs⟩ gw4 rg4
end
end K1
namespace K1
open PySem PySem.Spec PyProof.Rows L2 Ow
abbrev s_law_value : Stmt := topS 23
abbrev N_law_value : List Str := ["state", "pick", "number", "k"]
theorem sc_law_value : FnScope N_law_value ["state"] (defScope s_law_value) := ⟨rfl, rfl, rfl, by decide +kernel, rfl, by decide +kernel, by decide +kernel⟩
section
variable {P : Program} {w : World} {K : PySem.W.Frag} {mg : Str → Option Value} {base : Heap}
theorem ok_value {f : Addr} {fd : FuncData} (F : Fun K "_law_value" "_law_value" s_law_value f fd) (T : Bl mg)
    (D_law_next : Kn P w K mg base 3 "_law_next" ["state", "limit"] spNext)
    (D_law_text : Kn P w K mg base 4 "_law_text" ["state", "most"] spText) :
    FnOk P w K mg base CX0 5 f fd ["state"] spValue := by
  refine F.ok sc_law_value (fun vs H Q E h => ?_) (fun cdv A outer s H vs Q E hr h => ?_)
  · obtain ⟨p, d, rfl, _⟩ := h
    rfl
  · obtain ⟨p, d, rfl, rg, q⟩ := h
    refine ⟨_, (pss_cons (ps_set (i := 1) sc_law_value.nd rfl (.inl rfl) (pe_kn D_law_next hr (pa_cons (pv 0) (pa_cons pe_int pa_nil))))
      (pss_cons (ps_if (pt_cmpR op_lt (pv 1) pe_int (nomark _)) (pss_one (ps_ret (pe_op op_sub (pe_kn D_law_next hr (pa_cons (pv 0) (pa_cons pe_int pa_nil))) pe_int))) pss_nil)
      (pss_cons (ps_if (pt_cmpR op_eq (pv 1) pe_int (nomark _)) (pss_cons (ps_set (i := 2) sc_law_value.nd rfl (.inl rfl) pe_int)
      (pss_cons (ps_for PassesOwn.never rfl (pi_range1 (by rfl) T.range (pa_cons (pe_op op_add pe_int (pe_kn D_law_next hr (pa_cons (pv 0) (pa_cons pe_int pa_nil)))) pa_nil)) (pg_name (i := 3) sc_law_value.nd rfl (.inl rfl)) (pss_one (ps_set (i := 2) sc_law_value.nd rfl (.inl rfl) (pe_op op_add (pe_op op_mul (pv 2) pe_int) (pe_kn D_law_next hr (pa_cons (pv 0) (pa_cons pe_int pa_nil)))))))
      (pss_one (ps_ret (pe_op op_mul (pv 2) (pe_ix ix_list (pe_lst (pa_cons pe_int (pa_cons (pe_un un_neg pe_int) pa_nil))) (pe_kn D_law_next hr (pa_cons (pv 0) (pa_cons pe_int pa_nil))) (fun _ _ => rfl))))))) pss_nil)
      (pss_cons (ps_if (pt_cmpR op_eq (pv 1) pe_int (nomark _)) (pss_one (ps_ret (pe_ix ix_list (pe_lst (pa_cons (pe_op op_sub (pe_op op_pow pe_int pe_int) pe_int) (pa_cons (pe_op op_sub pe_int (pe_op op_pow pe_int pe_int)) (pa_cons pe_int (pa_cons pe_int (pa_cons (pe_un un_neg pe_int) (pa_cons pe_int pa_nil))))))) (pe_kn D_law_next hr (pa_cons (pv 0) (pa_cons pe_int pa_nil))) (fun _ _ => rfl)))) pss_nil)
      (pss_cons (ps_if (pt_cmpR op_lt (pv 1) pe_int (nomark _)) (pss_one (ps_ret (pe_ix ix_list (pe_lst (pa_cons pe_str (pa_cons pe_str (pa_cons pe_str (pa_cons pe_str (pa_cons pe_str (pa_cons pe_str (pa_cons pe_str pa_nil)))))))) (pe_kn D_law_next hr (pa_cons (pv 0) (pa_cons pe_int pa_nil))) (fun _ _ => rfl)))) pss_nil)
      (pss_one (ps_ret (pe_kn D_law_text hr (pa_cons (pv 0) (pa_cons pe_int pa_nil)))))))))), ?_⟩
    refine ⟨_, rfl, p, d, 9, rfl, by decide, rg, ?_⟩
    rintro x1 H1 ⟨b, rfl, b0, b1⟩ gw1 rg1
    refine ⟨_, rfl, _, _, rfl, rfl, _, rfl, ite2 (fun e => ?_) (fun e => ?_)⟩
    · refine ⟨_, rfl, p, d, 5, rfl, by decide, rg1, ?_⟩
      rintro x2 H2 ⟨c, rfl, c0, c1⟩ gw2 rg2
      exact ⟨c, 2, rfl, rfl, q _ _ (.inl ⟨_, rfl, by omega⟩) (gw1.trans gw2) rg2⟩
    refine ⟨_, rfl, rfl, _, rfl, ite2 (fun e => ?_) (fun e => ?_)⟩
    · refine ⟨_, rfl, p, d, 7, rfl, by decide, rg1, ?_⟩
      rintro x2 H2 ⟨c, rfl, c0, c1⟩ gw2 rg2
      refine ⟨1, c, rfl, rfl, 1 + c, rfl, by omega, by omega, for_range (lo := 0) (n := (1 + c).toNat) (fun i σ H3 => ∃ (n : Int) (y3 : Option V),
        σ = [some (.ref p), some (.int b), some (.int n), y3] ∧ 0 ≤ n ∧ n < 9973 ^ i ∧ Gw p H H3 ∧ Rng d H3 p) ⟨0, none, rfl, by decide, by decide, gw1.trans gw2, rg2⟩ (fun i σ H3 hi hP => ?_) (fun σ H3 hP => ?_)⟩
      · obtain ⟨n, y3, rfl, n0, n1, gw3, rg3⟩ := hP
        refine ⟨_, rfl, n, 9973, rfl, rfl, .inr ⟨by decide, by decide⟩, _, rfl, p, d, 9973, rfl, by decide, rg3, ?_⟩
        rintro x4 H4 ⟨z, rfl, z0, z1⟩ gw4 rg4
        exact ⟨_, _, rfl, rfl, _, _, rfl, by omega, by rw [Int.pow_succ]; omega, gw3.trans gw4, rg4⟩
      · obtain ⟨n, y3, rfl, n0, n1, gw3, rg3⟩ := hP
        have n2 : n < 9973 ^ 7 := by
          have : (1 + c).toNat ≤ 7 := by omega
          have h := Nat.pow_le_pow_right (n := 9973) (by decide) this
          have h' : ((9973 ^ (1 + c).toNat : Nat) : Int) ≤ ((9973 ^ 7 : Nat) : Int) := by omega
          rw [Int.natCast_pow, Int.natCast_pow] at h'
          exact Int.lt_of_lt_of_le n1 h'
        refine ⟨_, rfl, 1, rfl, by decide, fun o no => ⟨_, rfl, p, d, 2, rfl, by decide, rg3.same (Same.new no), ?_⟩⟩
        rintro x5 H5 ⟨v, rfl, v0, v1⟩ gw5 rg5
        obtain ⟨y, hy, my⟩ := at_in (xs := [V.int 1, V.int (-1)]) v0 v1
        refine ⟨o, _, v, y, rfl, rfl, SqL.of (gw5.keep upd_same (rg3.free no).1), hy, ?_⟩
        have gw6 : Gw p H H5 := (gw3.trans (Gw.new no)).trans gw5
        simp only [List.mem_cons, List.not_mem_nil, or_false] at my
        rcases my with rfl | rfl
        · exact ⟨n, 1, rfl, rfl, .inr ⟨by decide, by decide⟩, q _ _ (.inl ⟨_, rfl, by omega⟩) gw6 rg5⟩
        · exact ⟨n, -1, rfl, rfl, .inr ⟨by decide, by decide⟩, q _ _ (.inl ⟨_, rfl, by omega⟩) gw6 rg5⟩
    refine ⟨_, rfl, rfl, _, rfl, ite2 (fun e => ?_) (fun e => ?_)⟩
    · refine ⟨10, 30, rfl, rfl, ⟨by decide, by decide, by decide⟩, _, 1, rfl, rfl, 10, 30, rfl, rfl, ⟨by decide, by decide, by decide⟩, 1, _, rfl, rfl, 128, rfl, by decide, fun o no => ⟨_, rfl, p, d, 6, rfl, by decide, rg1.same (Same.new no), ?_⟩⟩
      rintro x5 H5 ⟨v, rfl, v0, v1⟩ gw5 rg5
      obtain ⟨y, hy, my⟩ := at_in (xs := [V.int ((10 : Int) ^ (30 : Int).toNat - 1), V.int (1 - (10 : Int) ^ (30 : Int).toNat), V.int 127, V.int 128, V.int (-128), V.int 16384]) v0 v1
      refine ⟨o, _, v, y, rfl, rfl, SqL.of (gw5.keep upd_same (rg1.free no).1), hy, q _ _ ?_ ((gw1.trans (Gw.new no)).trans gw5) rg5⟩
      simp only [List.mem_cons, List.not_mem_nil, or_false] at my
      rcases my with rfl | rfl | rfl | rfl | rfl | rfl <;> exact .inl ⟨_, rfl, by decide⟩
    refine ⟨_, rfl, _, _, rfl, rfl, _, rfl, ite2 (fun e => ?_) (fun e => ?_)⟩
    · refine ⟨by decide, fun o no => ⟨_, rfl, p, d, 7, rfl, by decide, rg1.same (Same.new no), ?_⟩⟩
      rintro x5 H5 ⟨v, rfl, v0, v1⟩ gw5 rg5
      obtain ⟨y, hy, my⟩ := at_in (xs := [V.str "", V.str "a", V.str "b", V.str "ab", V.str "a ", V.str "0", V.str "1"]) v0 v1
      refine ⟨o, _, v, y, rfl, rfl, SqL.of (gw5.keep upd_same (rg1.free no).1), hy, q _ _ ?_ ((gw1.trans (Gw.new no)).trans gw5) rg5⟩
      simp only [List.mem_cons, List.not_mem_nil, or_false] at my
      rcases my with rfl | rfl | rfl | rfl | rfl | rfl | rfl <;> exact .inr ⟨_, rfl, by decide +kernel, by decide +kernel⟩
    · refine ⟨_, rfl, p, d, 30, rfl, by decide, rg1, ?_⟩
      rintro x2 H2 ⟨z, rfl, pz, lz⟩ gw2 rg2
      exact q _ _ (.inr ⟨_, rfl, pz, by omega⟩) (gw1.trans gw2) rg2
end
end K1
namespace K1
open PySem PySem.Spec PyProof.Rows L2 Ow
abbrev s_law_small : Stmt := topS 28
abbrev N_law_small : List Str := ["state", "pick"]
theorem sc_law_small : FnScope N_law_small ["state"] (defScope s_law_small) := ⟨rfl, rfl, rfl, by decide +kernel, rfl, by decide +kernel, by decide +kernel⟩
section
variable {P : Program} {w : World} {K : PySem.W.Frag} {mg : Str → Option Value} {base : Heap}
theorem ok_small {f : Addr} {fd : FuncData} (F : Fun K "_law_small" "_law_small" s_law_small f fd) (T : Bl mg)
    (D_law_next : Kn P w K mg base 3 "_law_next" ["state", "limit"] spNext)
    (D_law_value : Kn P w K mg base 5 "_law_value" ["state"] spValue) :
    FnOk P w K mg base CX0 6 f fd ["state"] spValue := by
  refine F.ok sc_law_small (fun vs H Q E h => ?_) (fun cdv A outer s H vs Q E hr h => ?_)
  · obtain ⟨p, d, rfl, _⟩ := h
    rfl
  · obtain ⟨p, d, rfl, rg, q⟩ := h
    refine ⟨_, (pss_cons (ps_set (i := 1) sc_law_small.nd rfl (.inl rfl) (pe_kn D_law_next hr (pa_cons (pv 0) (pa_cons pe_int pa_nil))))
      (pss_cons (ps_if (pt_cmpR op_lt (pv 1) pe_int (nomark _)) (pss_one (ps_ret (pe_kn D_law_next hr (pa_cons (pv 0) (pa_cons pe_int pa_nil))))) pss_nil)
      (pss_cons (ps_if (pt_cmpR op_lt (pv 1) pe_int (nomark _)) (pss_one (ps_ret (pe_ix ix_list (pe_lst (pa_cons pe_str (pa_cons pe_str (pa_cons pe_str (pa_cons pe_str pa_nil))))) (pe_kn D_law_next hr (pa_cons (pv 0) (pa_cons pe_int pa_nil))) (fun _ _ => rfl)))) pss_nil)
      (pss_one (ps_ret (pe_kn D_law_value hr (pa_cons (pv 0) pa_nil))))))), ?_⟩
    refine ⟨_, rfl, p, d, 12, rfl, by decide, rg, ?_⟩
    rintro x1 H1 ⟨b, rfl, b0, b1⟩ gw1 rg1
    refine ⟨_, rfl, _, _, rfl, rfl, _, rfl, ite2 (fun e => ?_) (fun e => ?_)⟩
    · refine ⟨_, rfl, p, d, 6, rfl, by decide, rg1, ?_⟩
      rintro x2 H2 ⟨c, rfl, c0, c1⟩ gw2 rg2
      exact q _ _ (.inl ⟨_, rfl, by omega⟩) (gw1.trans gw2) rg2
    refine ⟨_, rfl, _, _, rfl, rfl, _, rfl, ite2 (fun e => ?_) (fun e => ?_)⟩
    · refine ⟨by decide, fun o no => ⟨_, rfl, p, d, 4, rfl, by decide, rg1.same (Same.new no), ?_⟩⟩
      rintro x5 H5 ⟨v, rfl, v0, v1⟩ gw5 rg5
      obtain ⟨y, hy, my⟩ := at_in (xs := [V.str "a", V.str "b", V.str "ab", V.str "lamp"]) v0 v1
      refine ⟨o, _, v, y, rfl, rfl, SqL.of (gw5.keep upd_same (rg1.free no).1), hy, q _ _ ?_ ((gw1.trans (Gw.new no)).trans gw5) rg5⟩
      simp only [List.mem_cons, List.not_mem_nil, or_false] at my
      rcases my with rfl | rfl | rfl | rfl <;> exact .inr ⟨_, rfl, by decide +kernel, by decide +kernel⟩
    · refine ⟨_, rfl, p, d, rfl, rg1, ?_⟩
      rintro x2 H2 sx gw2 rg2
      exact q _ _ sx (gw1.trans gw2) rg2
end
end K1
namespace K1
open PySem PySem.Spec PyProof.Rows L2 Ow Tlz
/-! the order of rows -/
theorem cps_inj {x y : Str} (h : x.cps.toList = y.cps.toList) : x = y := by
  cases x
  cases y
  simp only [Str.mk.injEq]
  exact Array.toList_inj.mp h
theorem str_tot (x y : Str) : x.cps.toList < y.cps.toList ∨ x = y ∨ y.cps.toList < x.cps.toList := by
  by_cases h1 : x.cps.toList < y.cps.toList
  · exact .inl h1
  · by_cases h2 : y.cps.toList < x.cps.toList
    · exact .inr (.inr h2)
    · exact .inr (.inl (cps_inj (List.le_antisymm h2 h1)))
theorem first_tot {x y : V} (sx : Scal x) (sy : Scal y) : firstV x y = true ∨ x = y ∨ firstV y x = true := by
  rcases sx with ⟨i, rfl, _⟩ | ⟨x, rfl, _⟩ <;> rcases sy with ⟨j, rfl, _⟩ | ⟨y, rfl, _⟩
  · rcases Int.lt_trichotomy i j with h | h | h
    · exact .inl (decide_eq_true h)
    · exact .inr (.inl (by rw [h]))
    · exact .inr (.inr (decide_eq_true h))
  · exact .inl rfl
  · exact .inr (.inr rfl)
  · rcases str_tot x y with h | h | h
    · exact .inl (decide_eq_true h)
    · exact .inr (.inl (by rw [h]))
    · exact .inr (.inr (decide_eq_true h))
theorem first_irr {x : V} (sx : Scal x) : firstV x x = false := by
  rcases sx with ⟨i, rfl, _⟩ | ⟨x, rfl, _⟩
  · exact decide_eq_false (by omega)
  · exact decide_eq_false (List.lt_irrefl _)
theorem first_trans {x y z : V} (sx : Scal x) (sy : Scal y) (sz : Scal z) (h : firstV x y = true) (g : firstV y z = true) : firstV x z = true := by
  rcases sx with ⟨i, rfl, _⟩ | ⟨x, rfl, _⟩ <;> rcases sy with ⟨j, rfl, _⟩ | ⟨y, rfl, _⟩ <;> rcases sz with ⟨k, rfl, _⟩ | ⟨z, rfl, _⟩
  · have a : i < j := of_decide_eq_true h
    have b : j < k := of_decide_eq_true g
    exact decide_eq_true (by omega)
  · rfl
  · exact absurd (show false = true from g) Bool.false_ne_true
  · rfl
  · exact absurd (show false = true from h) Bool.false_ne_true
  · exact absurd (show false = true from h) Bool.false_ne_true
  · exact absurd (show false = true from g) Bool.false_ne_true
  · have a : x.cps.toList < y.cps.toList := of_decide_eq_true h
    have b : y.cps.toList < z.cps.toList := of_decide_eq_true g
    exact decide_eq_true (List.lt_trans a b)
def Rlt (xs ys : List V) : Prop := orderV xs ys < 0
instance (xs ys : List V) : Decidable (Rlt xs ys) := inferInstanceAs (Decidable (_ < _))
theorem order_cons (x y : V) (xs ys : List V) : orderV (x :: xs) (y :: ys) = if firstV x y = true then -1 else if firstV y x = true then 1 else orderV xs ys := by
  rw [orderV]
theorem rlt_cons {x y : V} {xs ys : List V} (sx : Scal x) (sy : Scal y) : Rlt (x :: xs) (y :: ys) ↔ firstV x y = true ∨ (x = y ∧ Rlt xs ys) := by
  unfold Rlt
  rw [order_cons]
  rcases first_tot sx sy with h | h | h
  · rw [if_pos h]
    exact ⟨fun _ => .inl h, fun _ => by decide⟩
  · subst h
    rw [first_irr sx, if_neg Bool.false_ne_true, if_neg Bool.false_ne_true]
    exact ⟨fun z => .inr ⟨rfl, z⟩, fun z => z.elim (fun w => absurd w Bool.false_ne_true) (·.2)⟩
  · have h2 := first_asym sy sx h
    rw [h2, if_neg Bool.false_ne_true, if_pos h]
    refine ⟨fun z => absurd z (by decide), fun z => z.elim (fun w => absurd w Bool.false_ne_true) fun w => ?_⟩
    rw [w.1, first_irr sy] at h
    exact absurd h Bool.false_ne_true
theorem rlt_trans : ∀ {xs ys zs : List V}, (∀ x ∈ xs, Scal x) → (∀ y ∈ ys, Scal y) → (∀ z ∈ zs, Scal z) → Rlt xs ys → Rlt ys zs → Rlt xs zs
  | [], [], _, _, _, _, h, _ => absurd h (by decide)
  | [], _ :: _, [], _, _, _, _, g => absurd g (by unfold Rlt orderV; decide)
  | [], _ :: _, _ :: _, _, _, _, _, _ => by unfold Rlt orderV; decide
  | _ :: _, [], _, _, _, _, h, _ => absurd h (by unfold Rlt orderV; decide)
  | _ :: _, _ :: _, [], _, _, _, _, g => absurd g (by unfold Rlt orderV; decide)
  | x :: xs, y :: ys, z :: zs, hx, hy, hz, h, g => by
    have sx := hx x List.mem_cons_self
    have sy := hy y List.mem_cons_self
    have sz := hz z List.mem_cons_self
    rw [rlt_cons sx sy] at h
    rw [rlt_cons sy sz] at g
    rw [rlt_cons sx sz]
    rcases h with h | ⟨e, h⟩ <;> rcases g with g | ⟨e2, g⟩
    · exact .inl (first_trans sx sy sz h g)
    · rw [← e2]; exact .inl h
    · rw [e]; exact .inl g
    · exact .inr ⟨e.trans e2, rlt_trans (fun v m => hx v (List.mem_cons_of_mem _ m)) (fun v m => hy v (List.mem_cons_of_mem _ m)) (fun v m => hz v (List.mem_cons_of_mem _ m)) h g⟩
theorem rlt_irr {xs : List V} (hx : ∀ x ∈ xs, Scal x) : ¬ Rlt xs xs := by
  induction xs with
  | nil => decide
  | cons x xs ih =>
    rw [rlt_cons (hx x List.mem_cons_self) (hx x List.mem_cons_self)]
    intro h
    rcases h with h | ⟨_, h⟩
    · rw [first_irr (hx x List.mem_cons_self)] at h
      exact Bool.false_ne_true h
    · exact ih (fun v m => hx v (List.mem_cons_of_mem _ m)) h
/-! lists of rows -/
def rrefs (rs : List (Addr × List V)) : List V := rs.map fun t => .ref t.1
def RowsOk (K : PySem.W.Frag) (H : Hp) (rs : List (Addr × List V)) : Prop := ∀ t ∈ rs, SqT K H t.1 t.2 ∧ (∀ x ∈ t.2, Scal x) ∧ t.2.length ≤ 10
theorem rrefs_get {rs : List (Addr × List V)} {i : Nat} {x : V} (h : (rrefs rs)[i]? = some x) : ∃ t, rs[i]? = some t ∧ x = .ref t.1 := by
  unfold rrefs at h
  rw [List.getElem?_map] at h
  cases e : rs[i]? with
  | none => rw [e] at h; cases h
  | some t => rw [e] at h; exact ⟨t, rfl, (Option.some.inj h).symm⟩
theorem rrefs_at {rs : List (Addr × List V)} {i : Nat} {t : Addr × List V} (h : rs[i]? = some t) : (rrefs rs)[i]? = some (.ref t.1) := by
  unfold rrefs
  rw [List.getElem?_map, h]
  rfl
theorem RowsOk.tk {K : PySem.W.Frag} {H H' : Hp} {rs : List (Addr × List V)} (t : Tk K H H') (h : RowsOk K H rs) : RowsOk K H' rs := fun u m => ⟨t _ _ (h u m).1, (h u m).2⟩
theorem RowsOk.snoc {K : PySem.W.Frag} {H : Hp} {rs : List (Addr × List V)} {q : Addr} {xs : List V} (h : RowsOk K H rs) (hq : SqT K H q xs) (sx : ∀ x ∈ xs, Scal x) (lx : xs.length ≤ 10) : RowsOk K H (rs ++ [(q, xs)]) := by
  intro u m
  rcases List.mem_append.mp m with m | m
  · exact h u m
  · rw [List.mem_singleton.mp m]
    exact ⟨hq, sx, lx⟩
theorem rrefs_snoc {rs : List (Addr × List V)} {t : Addr × List V} : rrefs (rs ++ [t]) = rrefs rs ++ [.ref t.1] := by
  unfold rrefs
  rw [List.map_append]
  rfl
theorem rrefs_len (rs : List (Addr × List V)) : (rrefs rs).length = rs.length := by unfold rrefs; rw [List.length_map]
theorem RowsOk.same {K : PySem.W.Frag} {H H' : Hp} {rs : List (Addr × List V)} (s : Same H H') (h : RowsOk K H rs) : RowsOk K H' rs := h.tk (Tk.same s)
/-- the rows stand in their order -/
def Srt (rs : List (Addr × List V)) : Prop := rs.Pairwise fun a b => Rlt a.2 b.2
/-- n is the first place whose row is not before row -/
def Place (rs : List (Addr × List V)) (row : List V) (n : Nat) : Prop := (∀ j t, j < n → rs[j]? = some t → Rlt t.2 row) ∧ ∀ j t, n ≤ j → rs[j]? = some t → ¬ Rlt t.2 row
def spPlace (K : PySem.W.Frag) : Sp := fun vs H Q _ => ∃ (l r : Addr) (rs : List (Addr × List V)) (row : List V), vs = [.ref l, .ref r] ∧ SqL K H l (rrefs rs) ∧ RowsOk K H rs ∧ SqT K H r row ∧ (∀ x ∈ row, Scal x) ∧ row.length ≤ 10 ∧ rs.length ≤ 1000 ∧
  ∀ (n : Nat) H', n ≤ rs.length → (Srt rs → Place rs row n) → Same H H' → Q (.int (n : Int)) H'
abbrev splace_of : Stmt := topS 5
abbrev Nplace_of : List Str := ["rows", "row", "wanted", "low", "high", "middle"]
theorem scplace_of : FnScope Nplace_of ["rows", "row"] (defScope splace_of) := ⟨rfl, rfl, rfl, by decide +kernel, rfl, by decide +kernel, by decide +kernel⟩
def muP : L2.St → Hp → Nat := fun σ _ => match σ with
  | _ :: _ :: _ :: some (.int lo) :: some (.int hi) :: _ => (hi - lo).toNat
  | _ => 0
theorem srt_lt {rs : List (Addr × List V)} (h : Srt rs) {i j : Nat} {a b : Addr × List V} (ha : rs[i]? = some a) (hb : rs[j]? = some b) (l : i < j) : Rlt a.2 b.2 := by
  obtain ⟨pa, ea⟩ := List.getElem?_eq_some_iff.mp ha
  obtain ⟨pb, eb⟩ := List.getElem?_eq_some_iff.mp hb
  rw [← ea, ← eb]
  exact List.pairwise_iff_getElem.mp h i j pa pb l
section
variable {P : Program} {w : World} {K : PySem.W.Frag} {mg : Str → Option Value} {base : Heap}
theorem ok_place {f : Addr} {fd : FuncData} (F : Fun K "place_of" "place_of" splace_of f fd) (T : Bl mg)
    (Drow_key : Kn P w K mg base 2 "row_key" ["row"] (spRKey K)) :
    FnOk P w K mg base CX0 3 f fd ["rows", "row"] (spPlace K) := by
  refine F.ok scplace_of (fun vs H Q E h => ?_) (fun cdv A outer s H vs Q E hr h => ?_)
  · obtain ⟨l, r, rs, row, rfl, _⟩ := h
    rfl
  · obtain ⟨l, r, rs, row, rfl, hl, hR, hrow, sr, lr, lrs, q⟩ := h
    refine ⟨_, (pss_cons (ps_set (i := 2) scplace_of.nd rfl (.inl rfl) (pe_kn Drow_key hr (pa_cons (pv 1) pa_nil)))
      (pss_cons (ps_set (i := 3) scplace_of.nd rfl (.inl rfl) pe_int)
      (pss_cons (ps_set (i := 4) scplace_of.nd rfl (.inl rfl) (pe_callB call_len_seq (by rfl) T.len PySem.boot_len (pa_cons (pv 0) pa_nil)))
      (pss_cons (ps_while PassesOwn.never (pt_cmpR op_lt (pv 3) (pv 4) (nomark _))
        (pss_cons (ps_set (i := 5) scplace_of.nd rfl (.inl rfl) (pe_op op_fdiv (pe_op op_add (pv 3) (pv 4)) pe_int))
        (pss_one (ps_if (pt_cmpR (op_ltK hr) (pe_kn Drow_key hr (pa_cons (pe_ix ix_list (pv 0) (pv 5) (fun _ _ => rfl)) pa_nil)) (pv 2) (nomark _))
          (pss_one (ps_set (i := 3) scplace_of.nd rfl (.inl rfl) (pe_op op_add (pv 5) pe_int)))
          (pss_one (ps_set (i := 4) scplace_of.nd rfl (.inl rfl) (pv 5)))))))
      (pss_one (ps_ret (pv 3))))))), ?_⟩
    refine ⟨_, rfl, r, row, rfl, hrow, sr, by omega, fun y H1 dy s1 => ?_⟩
    refine ⟨_, rfl, l, rrefs rs, rfl, .inl (s1.seq hl), ?_⟩
    refine while_by (fun σ H2 => ∃ (lo hi : Nat) (y5 : Option V), σ = [some (.ref l), some (.ref r), some y, some (.int (lo : Int)), some (.int (hi : Int)), y5] ∧ Same H1 H2 ∧ lo ≤ hi ∧ hi ≤ rs.length ∧
        (Srt rs → (∀ j t, j < lo → rs[j]? = some t → Rlt t.2 row) ∧ ∀ j t, hi ≤ j → rs[j]? = some t → ¬ Rlt t.2 row)) muP
      ⟨0, rs.length, none, by rw [rrefs_len]; rfl, Same.refl _, Nat.zero_le _, Nat.le_refl _, fun _ => ⟨fun j t h => absurd h (Nat.not_lt_zero _), fun j t h e => by
        have := (List.getElem?_eq_some_iff.mp e).1
        omega⟩⟩ ?_ ?_
    · rintro σ H2 ⟨lo, hi, y5, rfl, s2, h1, h2, inv⟩
      refine ⟨_, rfl, _, rfl, _, _, rfl, rfl, _, rfl, ite2 (fun e => ?_) (fun e => ?_)⟩
      · have e1 : (lo : Int) < (hi : Int) := of_decide_eq_true e
        have lm : (lo + hi) / 2 < rs.length := by omega
        have em := List.getElem?_eq_getElem lm
        generalize hm : (lo + hi) / 2 = m at lm em
        obtain ⟨ht, st, lt⟩ := hR rs[m] (List.getElem_mem lm)
        have emi : (((lo : Int) + (hi : Int)) / 2) = ((m : Nat) : Int) := by omega
        refine ⟨_, rfl, _, rfl, _, _, rfl, rfl, _, 2, rfl, rfl, ⟨by decide, by decide⟩, ?_⟩
        refine ⟨_, rfl, _, rfl, l, rrefs rs, _, _, rfl, rfl, (s1.trans s2).seq hl, at_of (j := m) (by omega) (rrefs_at em), rs[m].1, rs[m].2, rfl, Tk.same (s1.trans s2) _ _ ht, st, by omega, fun z H3 dz s3 => ?_⟩
        obtain ⟨ag, okd⟩ := Agr.row st sr
        refine ⟨_, rfl, 2, _, _, ⟨dz, Dp.tk (Tk.same (s2.trans s3)) _ _ (noL_rk row) dy, lay_rk st, lay_rk sr, deep_rk _, deep_rk _, okd, by decide⟩, _, rfl, ?_⟩
        rw [ag.lt]
        refine ite2 (fun e2 => ?_) (fun e2 => ?_)
        · have e3 : Rlt rs[m].2 row := of_decide_eq_true e2
          have e5 : ([some (.ref l), some (.ref r), some y, some (.int (((lo : Int) + (hi : Int)) / 2 + 1)), some (.int (hi : Int)), some (.int (((lo : Int) + (hi : Int)) / 2))] : L2.St) =
              [some (.ref l), some (.ref r), some y, some (.int ((m + 1 : Nat) : Int)), some (.int (hi : Int)), some (.int (((lo : Int) + (hi : Int)) / 2))] := by
            rw [emi]
            rfl
          refine ⟨_, rfl, _, _, rfl, rfl, ⟨m + 1, hi, some (.int (((lo : Int) + (hi : Int)) / 2)), e5, s2.trans s3, by omega, h2, fun srt => ⟨fun j t hj et => ?_, (inv srt).2⟩⟩, ?_⟩
          · by_cases ej : j = m
            · subst ej
              rw [em] at et
              rw [← Option.some.inj et]
              exact e3
            · exact rlt_trans (hR t (List.mem_of_getElem? et)).2.1 st sr (srt_lt srt et em (by omega)) e3
          · show ((hi : Int) - (((lo : Int) + (hi : Int)) / 2 + 1)).toNat < ((hi : Int) - (lo : Int)).toNat
            omega
        · have e3 : ¬ Rlt rs[m].2 row := fun z => e2 (decide_eq_true z)
          have e5 : ([some (.ref l), some (.ref r), some y, some (.int (lo : Int)), some (.int (((lo : Int) + (hi : Int)) / 2)), some (.int (((lo : Int) + (hi : Int)) / 2))] : L2.St) =
              [some (.ref l), some (.ref r), some y, some (.int (lo : Int)), some (.int (m : Int)), some (.int (((lo : Int) + (hi : Int)) / 2))] := by
            rw [emi]
          refine ⟨_, rfl, ⟨lo, m, some (.int (((lo : Int) + (hi : Int)) / 2)), e5, s2.trans s3, by omega, by omega, fun srt => ⟨(inv srt).1, fun j t hj et => ?_⟩⟩, ?_⟩
          · by_cases ej : j = m
            · subst ej
              rw [em] at et
              rw [← Option.some.inj et]
              exact e3
            · intro z
              exact e3 (rlt_trans st (hR t (List.mem_of_getElem? et)).2.1 sr (srt_lt srt em et (by omega)) z)
          · show ((((lo : Int) + (hi : Int)) / 2) - (lo : Int)).toNat < ((hi : Int) - (lo : Int)).toNat
            omega
      · have e1 : ¬ (lo : Int) < (hi : Int) := fun z => e (decide_eq_true z)
        have e2 : hi = lo := by omega
        subst e2
        exact ⟨_, rfl, q hi _ h2 inv (s1.trans s2)⟩
    · rintro σ H2 Q1 Q2 hq ⟨v, hv, u, hu, i, j, hi, hj, k, hk, z⟩
      exact ⟨v, hv, u, hu, i, j, hi, hj, k, hk, hq _ _ z⟩
end
end K1
namespace K1
open PySem PySem.Spec PyProof.Rows L2 Ow Tlz
/-! tables by names -/
section
variable {β : Type}
def valG (l : List (Str × β)) (k : Str) : Option β := (l.find? fun e => decide (e.1 = k)).map (·.2)
def putG (l : List (Str × β)) (k : Str) (b : β) : List (Str × β) := if (l.any fun e => decide (e.1 = k)) = true then l.map (fun e => if e.1 = k then (e.1, b) else e) else l ++ [(k, b)]
def kvG (vv : β → V) (l : List (Str × β)) : List (Key × V) := l.map fun e => ((Sum.inr e.1 : Key), vv e.2)
theorem inr_iff (a b : Str) : ((Sum.inr a : Key) = Sum.inr b) ↔ a = b := ⟨fun h => Sum.inr.inj h, fun h => by rw [h]⟩
theorem kvG_any (vv : β → V) (l : List (Str × β)) (k : Str) : ((kvG vv l).any fun e => decide (e.1 = (Sum.inr k : Key))) = l.any fun e => decide (e.1 = k) := by
  unfold kvG
  rw [List.any_map]
  congr 1
  funext e
  exact decide_eq_decide.mpr (inr_iff _ _)
theorem kvG_put (vv : β → V) (l : List (Str × β)) (k : Str) (b : β) : putK (kvG vv l) (Sum.inr k) (vv b) = kvG vv (putG l k b) := by
  unfold putK putG
  rw [kvG_any]
  split
  · unfold kvG
    rw [List.map_map, List.map_map]
    refine List.map_congr_left fun e _ => ?_
    show (if (Sum.inr e.1 : Key) = Sum.inr k then ((Sum.inr e.1 : Key), vv b) else (Sum.inr e.1, vv e.2)) = _
    by_cases h : e.1 = k
    · rw [if_pos ((inr_iff _ _).mpr h)]
      show _ = ((Sum.inr (if e.1 = k then (e.1, b) else e).1 : Key), vv (if e.1 = k then (e.1, b) else e).2)
      rw [if_pos h]
    · rw [if_neg (fun z => h ((inr_iff _ _).mp z))]
      show _ = ((Sum.inr (if e.1 = k then (e.1, b) else e).1 : Key), vv (if e.1 = k then (e.1, b) else e).2)
      rw [if_neg h]
  · unfold kvG
    rw [List.map_append]
    rfl
theorem kvG_val (vv : β → V) (k : Str) : ∀ l : List (Str × β), valV (kvG vv l) (Sum.inr k) = (valG l k).map vv
  | [] => rfl
  | e :: l => by
    have ih := kvG_val vv k l
    by_cases h : e.1 = k
    · have h1 : valV (kvG vv (e :: l)) (Sum.inr k) = some (vv e.2) := valV_pos (p := ((Sum.inr e.1 : Key), vv e.2)) ((inr_iff _ _).mpr h)
      rw [h1]
      unfold valG
      rw [List.find?_cons, decide_eq_true h]
      rfl
    · have h1 : valV (kvG vv (e :: l)) (Sum.inr k) = valV (kvG vv l) (Sum.inr k) := valV_neg (p := ((Sum.inr e.1 : Key), vv e.2)) (fun z => h ((inr_iff _ _).mp z))
      rw [h1, ih]
      unfold valG
      rw [List.find?_cons, decide_eq_false h]
theorem valG_mem {l : List (Str × β)} {k : Str} {b : β} (h : valG l k = some b) : (k, b) ∈ l := by
  unfold valG at h
  cases e : l.find? fun e => decide (e.1 = k) with
  | none => rw [e] at h; cases h
  | some x =>
    rw [e] at h
    have h1 := List.find?_some e
    have h2 := List.mem_of_find?_eq_some e
    have h3 : x.1 = k := of_decide_eq_true h1
    have h4 : x.2 = b := Option.some.inj h
    rw [← h3, ← h4]
    exact h2
theorem valG_none {l : List (Str × β)} {k : Str} (h : valG l k = none) : ∀ e ∈ l, e.1 ≠ k := by
  unfold valG at h
  intro e m he
  cases z : l.find? fun e => decide (e.1 = k) with
  | none =>
    have := List.find?_eq_none.mp z e m
    exact this (decide_eq_true he)
  | some x => rw [z] at h; cases h
theorem any_val (l : List (Str × β)) (k : Str) : (l.any fun e => decide (e.1 = k)) = (valG l k).isSome := by
  cases h : valG l k with
  | none =>
    rw [Option.isSome_none, List.any_eq_false]
    intro e m
    rw [decide_eq_false (valG_none h e m)]
    exact Bool.false_ne_true
  | some b =>
    rw [Option.isSome_some, List.any_eq_true]
    exact ⟨_, valG_mem h, decide_eq_true rfl⟩
theorem putG_new {l : List (Str × β)} {k : Str} (b : β) (h : valG l k = none) : putG l k b = l ++ [(k, b)] := by
  unfold putG
  rw [any_val, h]
  rfl
theorem putG_len (l : List (Str × β)) (k : Str) (b : β) : (putG l k b).length ≤ l.length + 1 := by
  unfold putG
  split
  · rw [List.length_map]; omega
  · rw [List.length_append]; exact Nat.le_refl _
theorem putG_mem {l : List (Str × β)} {k : Str} {b : β} {e : Str × β} (h : e ∈ putG l k b) : e = (k, b) ∨ (e ∈ l ∧ e.1 ≠ k) := by
  unfold putG at h
  split at h
  · obtain ⟨x, mx, ex⟩ := List.mem_map.mp h
    by_cases z : x.1 = k
    · rw [if_pos z] at ex
      rw [← ex, z]
      exact .inl rfl
    · rw [if_neg z] at ex
      rw [← ex]
      exact .inr ⟨mx, z⟩
  · rename_i a
    rcases List.mem_append.mp h with m | m
    · refine .inr ⟨m, fun z => a ?_⟩
      rw [List.any_eq_true]
      exact ⟨e, m, decide_eq_true z⟩
    · exact .inl (List.mem_singleton.mp m)
theorem putG_keys (l : List (Str × β)) (k : Str) (b : β) : (putG l k b).map (·.1) = if (valG l k).isSome = true then l.map (·.1) else l.map (·.1) ++ [k] := by
  unfold putG
  rw [any_val]
  split
  · rw [List.map_map]
    refine List.map_congr_left fun e _ => ?_
    show (if e.1 = k then (e.1, b) else e).1 = e.1
    split <;> rfl
  · rw [List.map_append]
    rfl
theorem putG_nodup {l : List (Str × β)} {k : Str} {b : β} (h : (l.map (·.1)).Nodup) : ((putG l k b).map (·.1)).Nodup := by
  rw [putG_keys]
  split
  · exact h
  · rename_i z
    rw [List.nodup_append]
    refine ⟨h, by simp, fun a ma c mc => ?_⟩
    rw [List.mem_singleton.mp mc]
    rintro rfl
    obtain ⟨e, me, ee⟩ := List.mem_map.mp ma
    cases w : valG l a with
    | none => exact valG_none w e me ee
    | some _ => rw [w] at z; exact z rfl
theorem valG_of {l : List (Str × β)} {k : Str} {b : β} (nd : (l.map (·.1)).Nodup) (h : (k, b) ∈ l) : valG l k = some b := by
  induction l with
  | nil => cases h
  | cons e l ih =>
    rw [List.map_cons, List.nodup_cons] at nd
    unfold valG
    rw [List.find?_cons]
    rcases List.mem_cons.mp h with z | z
    · rw [← z, decide_eq_true rfl]
      rfl
    · have ne : e.1 ≠ k := fun w => nd.1 (List.mem_map.mpr ⟨_, z, w.symm⟩)
      rw [decide_eq_false ne]
      exact ih nd.2 z
/-- what putG keeps of an addressed table when the address stays -/
theorem putG_kv {vv : β → V} {l : List (Str × β)} {k : Str} {a b : β} (nd : (l.map (·.1)).Nodup) (h : valG l k = some a) (e : vv b = vv a) : kvG vv (putG l k b) = kvG vv l := by
  unfold putG kvG
  rw [any_val, h, if_pos (show (some a).isSome = true from rfl), List.map_map]
  refine List.map_congr_left fun x mx => ?_
  show ((Sum.inr (if x.1 = k then (x.1, b) else x).1 : Key), vv (if x.1 = k then (x.1, b) else x).2) = _
  by_cases z : x.1 = k
  · have z2 : valG l k = some x.2 := valG_of nd (by rw [← z]; exact mx)
    rw [if_pos z, e]
    rw [h] at z2
    rw [Option.some.inj z2]
  · rw [if_neg z]
end
end K1
namespace K1
open PySem PySem.Spec PyProof.Rows L2 Ow Tlz
/-! a State at x -/
theorem k_fr : ¬ (("facts" : Str) = "relations") := by decide +kernel
theorem k_sr : ¬ (("structures" : Str) = "relations") := by decide +kernel
theorem k_sf : ¬ (("structures" : Str) = "facts") := by decide +kernel
theorem k_lr : ¬ (("layouts" : Str) = "relations") := by decide +kernel
theorem k_lf : ¬ (("layouts" : Str) = "facts") := by decide +kernel
theorem k_ls : ¬ (("layouts" : Str) = "structures") := by decide +kernel
/-- the attributes, in the order in which they are stored -/
def flds (dr df ds dl : V) : List (Str × V) := putF "layouts" dl (putF "structures" ds (putF "facts" df (putF "relations" dr [])))
theorem flds_r (dr df ds dl : V) : (flds dr df ds dl).lookup ("relations" : Str) = some dr := by
  unfold flds
  rw [lookup_putF, if_neg (fun z => k_lr z.symm), lookup_putF, if_neg (fun z => k_sr z.symm), lookup_putF, if_neg (fun z => k_fr z.symm), lookup_putF, if_pos rfl]
theorem flds_f (dr df ds dl : V) : (flds dr df ds dl).lookup ("facts" : Str) = some df := by
  unfold flds
  rw [lookup_putF, if_neg (fun z => k_lf z.symm), lookup_putF, if_neg (fun z => k_sf z.symm), lookup_putF, if_pos rfl]
theorem flds_s (dr df ds dl : V) : (flds dr df ds dl).lookup ("structures" : Str) = some ds := by
  unfold flds
  rw [lookup_putF, if_neg (fun z => k_ls z.symm), lookup_putF, if_pos rfl]
theorem flds_l (dr df ds dl : V) : (flds dr df ds dl).lookup ("layouts" : Str) = some dl := by
  unfold flds
  rw [lookup_putF, if_pos rfl]
structure Txt (K : PySem.W.Frag) (mg : Str → Option Value) (C : Addr) : Prop where
  cl : Cls K C
  nR : NoAttr K C "relations"
  nF : NoAttr K C "facts"
  nS : NoAttr K C "structures"
  nL : NoAttr K C "layouts"
  mgC : mg "State" = some (.ref C)
abbrev Tb := List (Str × Addr × List V)
abbrev Fb := List (Str × Addr × List (Addr × List V))
def kvR (R : Tb) : List (Key × V) := kvG (fun b => V.ref b.1) R
def kvF (F : Fb) : List (Key × V) := kvG (fun b => V.ref b.1) F
/-- Z: what the State alone has; b: the most rows of a name -/
structure StAt (K : PySem.W.Frag) (C : Addr) (Z : Addr → Prop) (H : Hp) (x dr df ds dl : Addr) (R : Tb) (F : Fb) (S : Tb) (L : List (Str × V)) (b : Nat) : Prop where
  ob : ∃ dx, H x = some (.ins C dx (flds (.ref dr) (.ref df) (.ref ds) (.ref dl)))
  r : H dr = some (.dK (kvR R))
  rt : ∀ e ∈ R, SqT K H e.2.1 e.2.2
  f : H df = some (.dK (kvF F))
  ft : ∀ e ∈ F, H e.2.1 = some (.lst (rrefs e.2.2)) ∧ RowsOk K H e.2.2 ∧ e.2.2.length ≤ b
  fz : ∀ e ∈ F, Z e.2.1
  fp : F.Pairwise fun a b => a.2.1 ≠ b.2.1
  fn : (F.map (·.1)).Nodup
  s : H ds = some (.dK (kvR S))
  st : ∀ e ∈ S, SqT K H e.2.1 e.2.2
  l : H dl = some (.dK (kvG id L))
  z : Z dr ∧ Z df ∧ Z ds ∧ Z dl ∧ ¬ Z x
  ne : dr ≠ df ∧ dr ≠ ds ∧ dr ≠ dl ∧ df ≠ ds ∧ df ≠ dl ∧ ds ≠ dl
  nw : ∀ a, H a = none → Z a
  ln : R.length ≤ b ∧ F.length ≤ b ∧ S.length ≤ b ∧ L.length ≤ b
/-- all that the State has not alone stays -/
def Kp (Z : Addr → Prop) (H H' : Hp) : Prop := ∀ a o, ¬ Z a → H a = some o → H' a = some o
theorem Kp.refl (Z : Addr → Prop) (H : Hp) : Kp Z H H := fun _ _ _ h => h
theorem Kp.trans {Z : Addr → Prop} {H H1 H2 : Hp} (a : Kp Z H H1) (b : Kp Z H1 H2) : Kp Z H H2 := fun c o z h => b c o z (a c o z h)
theorem Kp.same {Z : Addr → Prop} {H H' : Hp} (s : Same H H') : Kp Z H H' := fun a o _ h => s a o h
theorem Kp.put {Z : Addr → Prop} {H : Hp} {p : Addr} {o : HO} (z : Z p) : Kp Z H (upd H p o) := fun a u nz h => by
  rw [upd_ne (show a ≠ p from fun e => nz (by rw [e]; exact z))]
  exact h
theorem Tk.dK {K : PySem.W.Frag} {H : Hp} {p : Addr} {kvs : List (Key × V)} {o : HO} (e : H p = some (.dK kvs)) : Tk K H (upd H p o) := fun a xs h => by
  rcases h with (h | ⟨u, h⟩) | h
  · exact .inl (.inl (by rw [upd_ne (fun z => by rw [z, e] at h; cases h)]; exact h))
  · exact .inl (.inr ⟨u, by rw [upd_ne (fun z => by rw [z, e] at h; cases h)]; exact h⟩)
  · exact .inr h
section
variable {K : PySem.W.Frag} {C x dr df ds dl : Addr} {Z : Addr → Prop} {H H' : Hp} {R S : Tb} {F : Fb} {L : List (Str × V)} {b : Nat}
theorem StAt.same (h : StAt K C Z H x dr df ds dl R F S L b) (s : Same H H') : StAt K C Z H' x dr df ds dl R F S L b := by
  obtain ⟨⟨dx, ob⟩, r, rt, f, ft, fz, fp, fn, s', st, l, z, ne, nw, ln⟩ := h
  exact ⟨⟨dx, s _ _ ob⟩, s _ _ r, fun e m => Tk.same s _ _ (rt e m), s _ _ f, fun e m => ⟨s _ _ (ft e m).1, (ft e m).2.1.same s, (ft e m).2.2⟩, fz, fp, fn, s _ _ s', fun e m => Tk.same s _ _ (st e m), s _ _ l, z, ne,
    fun a n => nw a (s.free n), ln⟩
theorem StAt.up {c : Nat} (h : StAt K C Z H x dr df ds dl R F S L b) (l : b ≤ c) : StAt K C Z H x dr df ds dl R F S L c := by
  obtain ⟨ob, r, rt, f, ft, fz, fp, fn, s', st, l', z, ne, nw, ln⟩ := h
  exact ⟨ob, r, rt, f, fun e m => ⟨(ft e m).1, (ft e m).2.1, by have := (ft e m).2.2; omega⟩, fz, fp, fn, s', st, l', z, ne, nw, by omega⟩
/-- the list of a name becomes another one -/
theorem StAt.rows {n : Str} {q : Addr} {rs rs' : List (Addr × List V)} (h : StAt K C Z H x dr df ds dl R F S L b) (hq : valG F n = some (q, rs)) (ro : RowsOk K H rs') (lr : rs'.length ≤ b) :
    StAt K C Z (upd H q (.lst (rrefs rs'))) x dr df ds dl R (putG F n (q, rs')) S L b ∧ Kp Z H (upd H q (.lst (rrefs rs'))) ∧ Tk K H (upd H q (.lst (rrefs rs'))) := by
  obtain ⟨⟨dx, ob⟩, r, rt, f, ft, fz, fp, fn, s', st, l, z, ne, nw, ln⟩ := h
  have mq := valG_mem hq
  have hq1 := (ft _ mq).1
  have zq : Z q := fz _ mq
  have hq2 : H q = some (.lst (rrefs rs)) := hq1
  have tk : Tk K H (upd H q (.lst (rrefs rs'))) := Tk.put hq2
  have no : ∀ (a : Addr) (kvs : List (Key × V)), H a = some (.dK kvs) → a ≠ q := fun a kvs e w => by rw [w, hq2] at e; cases e
  have oth : ∀ e ∈ F, e.1 ≠ n → e.2.1 ≠ q := fun e m en w => by
    have := List.pairwise_iff_getElem.mp fp
    obtain ⟨i, hi, ei⟩ := List.mem_iff_getElem.mp m
    obtain ⟨j, hj, ej⟩ := List.mem_iff_getElem.mp mq
    have hij : i ≠ j := fun z => by
      subst z
      rw [ei] at ej
      rw [ej] at en
      exact en rfl
    rcases Nat.lt_or_gt_of_ne hij with c | c
    · exact this i j hi hj c (by rw [ei, ej]; exact w)
    · exact this j i hj hi c (by rw [ei, ej]; exact w.symm)
  refine ⟨⟨⟨dx, by rw [upd_ne (show x ≠ q from fun w => z.2.2.2.2 (by rw [w]; exact zq))]; exact ob⟩, by rw [upd_ne (no _ _ r)]; exact r, fun e m => tk _ _ (rt e m), ?_, fun e m => ?_, fun e m => ?_, ?_, putG_nodup fn,
    by rw [upd_ne (no _ _ s')]; exact s', fun e m => tk _ _ (st e m), by rw [upd_ne (no _ _ l)]; exact l, z, ne, fun a n => nw a ?_, ?_⟩, Kp.put zq, tk⟩
  · rw [upd_ne (no _ _ f), f]
    unfold kvF
    rw [putG_kv (vv := fun b : Addr × List (Addr × List V) => V.ref b.1) (b := (q, rs')) fn hq rfl]
  · rcases putG_mem m with w | ⟨w, en⟩
    · rw [w]
      exact ⟨upd_same, ro.tk tk, lr⟩
    · refine ⟨?_, (ft e w).2.1.tk tk, (ft e w).2.2⟩
      rw [upd_ne (oth e w en)]
      exact (ft e w).1
  · rcases putG_mem m with w | ⟨w, _⟩
    · rw [w]
      exact zq
    · exact fz e w
  · unfold putG
    rw [any_val, hq, if_pos (show (some (q, rs)).isSome = true from rfl), List.pairwise_map]
    refine fp.imp_of_mem fun {a c} ma mc hac => ?_
    have fx : ∀ e ∈ F, (if e.1 = n then (e.1, q, rs') else e).2.1 = e.2.1 := fun e m => by
      by_cases en : e.1 = n
      · rw [if_pos en]
        have e2 := valG_of fn (k := n) (b := e.2) (by rw [← en]; exact m)
        rw [hq] at e2
        show q = e.2.1
        rw [← Option.some.inj e2]
      · rw [if_neg en]
    rw [fx a ma, fx c mc]
    exact hac
  · by_cases w : a = q
    · rw [w, upd_same] at n
      cases n
    · rw [upd_ne w] at n
      exact n
  · refine ⟨ln.1, ?_, ln.2.2⟩
    unfold putG
    rw [any_val, hq, if_pos (show (some (q, rs)).isSome = true from rfl), List.length_map]
    exact ln.2.1
/-- a new name with an empty list -/
theorem StAt.name {n : Str} {q : Addr} (h : StAt K C Z H x dr df ds dl R F S L b) (hn : valG F n = none) (hq : H q = some (.lst [])) (zq : Z q) (nq : ∀ e ∈ F, e.2.1 ≠ q) :
    StAt K C Z (upd H df (.dK (putK (kvF F) (Sum.inr n) (.ref q)))) x dr df ds dl R (F ++ [(n, q, [])]) S L (b + 1) := by
  obtain ⟨⟨dx, ob⟩, r, rt, f, ft, fz, fp, fn, s', st, l, z, ne, nw, ln⟩ := h
  have tk : Tk K H (upd H df (.dK (putK (kvF F) (Sum.inr n) (.ref q)))) := Tk.dK f
  have qd : q ≠ df := fun w => by rw [w, f] at hq; cases hq
  refine ⟨⟨dx, by rw [upd_ne (show x ≠ df from fun w => z.2.2.2.2 (by rw [w]; exact z.2.1))]; exact ob⟩, by rw [upd_ne ne.1]; exact r, fun e m => tk _ _ (rt e m), ?_, fun e m => ?_, fun e m => ?_, ?_, ?_,
    by rw [upd_ne ne.2.2.2.1.symm]; exact s', fun e m => tk _ _ (st e m), by rw [upd_ne ne.2.2.2.2.1.symm]; exact l, z, ne, fun a n => nw a ?_, ?_⟩
  · rw [upd_same]
    have := kvG_put (fun b : Addr × List (Addr × List V) => V.ref b.1) F n (q, [])
    rw [putG_new _ hn] at this
    exact congrArg (fun t => some (HO.dK t)) this
  · rcases List.mem_append.mp m with m | m
    · have n1 : e.2.1 ≠ df := fun w => by
        have := (ft e m).1
        rw [w, f] at this
        cases this
      refine ⟨by rw [upd_ne n1]; exact (ft e m).1, (ft e m).2.1.tk tk, ?_⟩
      have := (ft e m).2.2
      omega
    · rw [List.mem_singleton.mp m]
      exact ⟨by rw [upd_ne qd]; exact hq, (fun _ w => nomatch w), Nat.zero_le _⟩
  · rcases List.mem_append.mp m with m | m
    · exact fz e m
    · rw [List.mem_singleton.mp m]
      exact zq
  · rw [List.pairwise_append]
    refine ⟨fp, List.pairwise_singleton _ _, fun a ma c mc => ?_⟩
    rw [List.mem_singleton.mp mc]
    exact nq a ma
  · rw [List.map_append, List.nodup_append]
    refine ⟨fn, by simp, fun a ma c mc => ?_⟩
    rw [List.mem_singleton.mp mc]
    rintro rfl
    obtain ⟨e, me, ee⟩ := List.mem_map.mp ma
    exact valG_none hn e me ee
  · by_cases w : a = df
    · rw [w, upd_same] at n
      cases n
    · rw [upd_ne w] at n
      exact n
  · rw [List.length_append]
    show _ ∧ F.length + 1 ≤ _ ∧ _
    omega
end
/-- slices of rows are rows -/
theorem cut_rows (rs : List (Addr × List V)) (lo hi : Option Int) : ∃ ts : List (Addr × List V), cutV (rrefs rs) lo hi = rrefs ts ∧ (∀ t ∈ ts, t ∈ rs) ∧ ts = (rs.drop (HT.sIx rs.length 0 lo)).take (HT.sIx rs.length rs.length hi - HT.sIx rs.length 0 lo) := by
  refine ⟨(rs.drop (HT.sIx rs.length 0 lo)).take (HT.sIx rs.length rs.length hi - HT.sIx rs.length 0 lo), ?_, fun t m => List.mem_of_mem_drop (List.mem_of_mem_take m), rfl⟩
  unfold cutV rrefs
  rw [List.map_take, List.map_drop, List.length_map]
end K1
namespace K1
open PySem PySem.Spec PyProof.Rows L2 Ow Tlz
/-! rows as data -/
def scD : V → PyData
  | .int i => .int i
  | .str z => .str z
  | _ => .none
def rowD (xs : List V) : PyData := .tuple (xs.map scD)
def rwsD (rs : List (Addr × List V)) : PyData := .list (rs.map fun t => rowD t.2)
theorem sc_dp {K : PySem.W.Frag} {H : Hp} : ∀ {xs : List V}, (∀ x ∈ xs, Scal x) → DpAll K H xs (xs.map scD)
  | [], _ => .nil
  | x :: xs, h => by
    have h1 := sc_dp (K := K) (H := H) (xs := xs) fun z m => h z (List.mem_cons_of_mem _ m)
    rcases h x List.mem_cons_self with ⟨i, rfl, _⟩ | ⟨z, rfl, _⟩
    · exact .cons (.int i) h1
    · exact .cons (.str z) h1
theorem rws_dp {K : PySem.W.Frag} {H : Hp} : ∀ {rs : List (Addr × List V)}, RowsOk K H rs → DpAll K H (rrefs rs) (rs.map fun t => rowD t.2)
  | [], _ => .nil
  | t :: rs, h => .cons (.tup (h t List.mem_cons_self).1 (sc_dp (h t List.mem_cons_self).2.1)) (rws_dp (rs := rs) fun u m => h u (List.mem_cons_of_mem _ m))
theorem layAll : ∀ {xs : List PyData}, (∀ x ∈ xs, x.canLay0 = true) → PyData.canLayAll0 xs = true
  | [], _ => by simp [PyData.canLayAll0]
  | x :: xs, h => by
    rw [PyData.canLayAll0, h x List.mem_cons_self, layAll fun y m => h y (List.mem_cons_of_mem _ m)]
    rfl
theorem depthAll_le : ∀ {xs : List PyData} {n : Nat}, (∀ x ∈ xs, x.depth ≤ n) → PyData.depthAll xs ≤ n
  | [], n, _ => by simp [PyData.depthAll]
  | x :: xs, n, h => by
    rw [PyData.depthAll]
    exact Nat.max_le.mpr ⟨h x List.mem_cons_self, depthAll_le fun y m => h y (List.mem_cons_of_mem _ m)⟩
theorem sc_lay {v : V} (h : Scal v) : (scD v).canLay0 = true ∧ (scD v).depth = 0 := by
  rcases h with ⟨i, rfl, _⟩ | ⟨z, rfl, p, _⟩
  · simp [scD, PyData.canLay0, PyData.depth]
  · exact ⟨p.ok, by simp [scD, PyData.depth]⟩
theorem row_lay {xs : List V} (h : ∀ x ∈ xs, Scal x) : (rowD xs).canLay0 = true ∧ (rowD xs).depth ≤ 1 := by
  unfold rowD
  rw [PyData.canLay0, PyData.depth]
  refine ⟨layAll fun x mx => ?_, ?_⟩
  · obtain ⟨v, mv, rfl⟩ := List.mem_map.mp mx
    exact (sc_lay (h v mv)).1
  · have : PyData.depthAll (xs.map scD) ≤ 0 := depthAll_le fun x mx => by
      obtain ⟨v, mv, rfl⟩ := List.mem_map.mp mx
      rw [(sc_lay (h v mv)).2]
      exact Nat.le_refl _
    omega
theorem rws_shaped {rs : List (Addr × List V)} (h : ∀ t ∈ rs, ∀ x ∈ t.2, Scal x) : SeqAt.shaped (rwsD rs) = true := by
  unfold SeqAt.shaped rwsD
  rw [PyData.canLay0, PyData.depth]
  have l : PyData.canLayAll0 (rs.map fun t => rowD t.2) = true := layAll fun x mx => by
    obtain ⟨t, mt, rfl⟩ := List.mem_map.mp mx
    exact (row_lay (h t mt)).1
  have e : PyData.depthAll (rs.map fun t => rowD t.2) ≤ 1 := depthAll_le fun x mx => by
    obtain ⟨t, mt, rfl⟩ := List.mem_map.mp mx
    exact (row_lay (h t mt)).2
  rw [l, decide_eq_true (by omega)]
  rfl
theorem row_shaped {xs : List V} (h : ∀ x ∈ xs, Scal x) : SeqAt.shaped (rowD xs) = true := by
  have := row_lay h
  unfold SeqAt.shaped
  rw [this.1, decide_eq_true (by omega)]
  rfl
theorem eqv_sc {x y : V} (sx : Scal x) (sy : Scal y) : PyData.eqv (scD x) (scD y) = decide (x = y) := by
  rcases sx with ⟨i, rfl, _⟩ | ⟨x, rfl, _⟩ <;> rcases sy with ⟨j, rfl, _⟩ | ⟨y, rfl, _⟩
  · simp only [scD, eqv_int]
    by_cases h : i = j
    · subst h; simp
    · rw [decide_eq_false (fun z => h (V.int.inj z))]; simpa using h
  · rw [decide_eq_false (fun z => by cases z)]
    simp only [scD]
    rw [PyData.eqv]
    all_goals (intros; first | contradiction | (rename_i h; cases h))
  · rw [decide_eq_false (fun z => by cases z)]
    simp only [scD]
    rw [PyData.eqv]
    all_goals (intros; first | contradiction | (rename_i h; cases h))
  · simp only [scD, eqv_str]
    by_cases h : x = y
    · subst h; simp
    · rw [decide_eq_false (fun z => h (V.str.inj z))]; simpa using h
theorem eqv_scs : ∀ {xs ys : List V}, (∀ x ∈ xs, Scal x) → (∀ y ∈ ys, Scal y) → PyData.eqvAll (xs.map scD) (ys.map scD) = decide (xs = ys)
  | [], [], _, _ => by rw [List.map_nil, eqv_nil]; rfl
  | [], y :: ys, _, _ => by rw [List.map_nil, List.map_cons, eqv_nc, decide_eq_false (fun z => by cases z)]
  | x :: xs, [], _, _ => by rw [List.map_nil, List.map_cons, eqv_cn, decide_eq_false (fun z => by cases z)]
  | x :: xs, y :: ys, hx, hy => by
    rw [List.map_cons, List.map_cons, eqv_cons, eqv_sc (hx x List.mem_cons_self) (hy y List.mem_cons_self), eqv_scs (fun v m => hx v (List.mem_cons_of_mem _ m)) fun v m => hy v (List.mem_cons_of_mem _ m)]
    by_cases h : x = y
    · subst h
      by_cases g : xs = ys
      · subst g; simp
      · rw [decide_eq_false g, decide_eq_false (fun z => g (List.cons.inj z).2)]; simp
    · rw [decide_eq_false h, decide_eq_false (fun z => h (List.cons.inj z).1)]; rfl
theorem eqv_row {xs ys : List V} (hx : ∀ x ∈ xs, Scal x) (hy : ∀ y ∈ ys, Scal y) : PyData.eqv (rowD xs) (rowD ys) = decide (xs = ys) := by
  unfold rowD
  rw [eqv_tup]
  exact eqv_scs hx hy
theorem eqv_lst (xs ys : List PyData) : PyData.eqv (.list xs) (.list ys) = PyData.eqvAll xs ys := by rw [PyData.eqv]
/-- a fact is put into the table -/
def PutF (F : Fb) (n : Str) (r : Addr) (row : List V) (F' : Fb) : Prop := ∃ (q : Addr) (rs : List (Addr × List V)) (F1 : Fb) (k : Nat),
  ((F1 = F ∧ valG F n = some (q, rs)) ∨ (valG F n = none ∧ rs = [] ∧ F1 = F ++ [(n, q, [])])) ∧ k ≤ rs.length ∧ (Srt rs → Place rs row k) ∧
  ((F' = F1 ∧ ∃ t, rs[k]? = some t ∧ t.2 = row) ∨ (F' = putG F1 n (q, rs.take k ++ [(r, row)] ++ rs.drop k) ∧ ∀ t, rs[k]? = some t → t.2 ≠ row))
def spPutFact (K : PySem.W.Frag) (C : Addr) : Sp := fun vs H Q _ => ∃ (x r : Addr) (n : Str) (row : List V) (dr df ds dl : Addr) (Z : Addr → Prop) (R S : Tb) (F : Fb) (L : List (Str × V)) (b : Nat), vs = [.ref x, .str n, .ref r] ∧
  StAt K C Z H x dr df ds dl R F S L b ∧ b ≤ 900 ∧ SqT K H r row ∧ (∀ v ∈ row, Scal v) ∧ row.length ≤ 10 ∧
  ∀ F' H', PutF F n r row F' → StAt K C Z H' x dr df ds dl R F' S L (b + 1) → Kp Z H H' → Tk K H H' → Q .non H'
abbrev sput_fact : Stmt := topS 6
abbrev Nput_fact : List Str := ["state", "name", "row", "rows", "at"]
theorem scput_fact : FnScope Nput_fact ["state", "name", "row"] (defScope sput_fact) := ⟨rfl, rfl, rfl, by decide +kernel, rfl, by decide +kernel, by decide +kernel⟩
theorem kvF_val (F : Fb) (n : Str) : valV (kvF F) (Sum.inr n) = (valG F n).map fun b => V.ref b.1 := kvG_val _ _ _
section
variable {P : Program} {w : World} {K : PySem.W.Frag} {mg : Str → Option Value} {base : Heap} {C : Addr}
theorem ok_putfact {f : Addr} {fd : FuncData} (F0 : Fun K "put_fact" "put_fact" sput_fact f fd) (T : Bl mg) (X : Txt K mg C)
    (Dplace_of : Kn P w K mg base 3 "place_of" ["rows", "row"] (spPlace K)) :
    FnOk P w K mg base CX0 4 f fd ["state", "name", "row"] (spPutFact K C) := by
  refine F0.ok scput_fact (fun vs H Q E h => ?_) (fun cdv A outer s H vs Q E hr h => ?_)
  · obtain ⟨x, r, n, row, dr, df, ds, dl, Z, R, S, F, L, b, rfl, _⟩ := h
    rfl
  · obtain ⟨x, r, n, row, dr, df, ds, dl, Z, R, S, F, L, b, rfl, st, lb, hrow, srow, lrow, q⟩ := h
    refine ⟨_, (pss_mid (ps_set (i := 3) scput_fact.nd rfl (.inl rfl) (pe_dsetd (pe_fld (pv 0) rfl) (pv 1) (pe_lst pa_nil) ⟨rfl, rfl, rfl, rfl⟩))
      (pss_cons (ps_set (i := 4) scput_fact.nd rfl (.inl rfl) (pe_kn Dplace_of hr (pa_cons (pv 3) (pa_cons (pv 2) pa_nil))))
      (pss_one (ps_if (pt_cmpR (op_neD (hu64 hr)) (pe_slice sl_list (pv 3) (po_some (pv 4)) (po_some (pe_op op_add (pv 4) pe_int))) (pe_lst (pa_cons (pv 2) pa_nil)) (nomark _))
        (pss_one (ps_expr (pe_bm PySem.F.plainAttrs_list PySem.F.slot_list_insert PySem.F.type_list_insert mt_insert (pv 3) (pa_cons (pv 4) (pa_cons (pv 2) pa_nil))))) pss_nil)))), ?_⟩
    refine ⟨fun σ H1 => ∃ (l : Addr) (rs : List (Addr × List V)) (F1 : Fb), σ = [some (.ref x), some (.str n), some (.ref r), some (.ref l), none] ∧ StAt K C Z H1 x dr df ds dl R F1 S L (b + 1) ∧ valG F1 n = some (l, rs) ∧
        ((F1 = F ∧ valG F n = some (l, rs)) ∨ (valG F n = none ∧ rs = [] ∧ F1 = F ++ [(n, l, [])])) ∧ rs.length ≤ b ∧ Kp Z H H1 ∧ Tk K H H1, ?_, ?_⟩
    · obtain ⟨dx, ob⟩ := st.ob
      refine ⟨_, rfl, x, C, dx, _, _, rfl, ob, X.cl, X.nF, flds_f _ _ _ _, df, rfl, .inl ⟨_, .inl st.f⟩, _, rfl, sz 0, fun o no => ?_⟩
      have s1 := Same.new (o := .lst []) no
      have st1 := st.same s1
      have zo := st.nw o no
      refine ⟨kvF F, Sum.inr n, st1.f, rfl, ?_, fun v hv => ?_, fun hv => ?_⟩
      · unfold kvF kvG
        rw [List.length_map]
        exact small (m := 1000) (by have := st.ln; omega) (by decide)
      · rw [kvF_val] at hv
        cases e : valG F n with
        | none => rw [e] at hv; cases hv
        | some a =>
          rw [e] at hv
          have ev : V.ref a.1 = v := Option.some.inj hv
          subst ev
          have m := valG_mem e
          exact ⟨a.1, a.2, F, rfl, st1.up (by omega), e, .inl ⟨rfl, rfl⟩, (st.ft _ m).2.2, Kp.same s1, Tk.same s1⟩
      · rw [kvF_val] at hv
        have e : valG F n = none := by
          cases e : valG F n with
          | none => rfl
          | some a => rw [e] at hv; cases hv
        have nq : ∀ e ∈ F, e.2.1 ≠ o := fun e m w => by
          have := (st.ft e m).1
          rw [w, no] at this
          cases this
        refine ⟨o, [], F ++ [(n, o, [])], rfl, st1.name e upd_same zo nq, ?_, .inr ⟨e, rfl, rfl⟩, Nat.zero_le _, (Kp.same s1).trans (Kp.put st.z.2.1), (Tk.same s1).trans (Tk.dK st1.f)⟩
        refine valG_of ?_ (List.mem_append_right _ (List.mem_singleton.mpr rfl))
        exact (st1.name e upd_same zo nq).fn
    · rintro σ H1 ⟨l, rs, F1, rfl, st1, ev, how, lrs, kp1, tk1⟩
      have m1 := valG_mem ev
      obtain ⟨hl, ro, _⟩ := st1.ft _ m1
      have hl' : H1 l = some (.lst (rrefs rs)) := hl
      have ro' : RowsOk K H1 rs := ro
      have hrow1 := tk1 _ _ hrow
      refine ⟨_, rfl, _, rfl, l, r, rs, row, rfl, SqL.of hl', ro', hrow1, srow, lrow, by omega, fun k H2 lk pl s2 => ?_⟩
      have st2 := st1.same s2
      have hl2 := s2 _ _ hl'
      obtain ⟨ts, ec, mts, ets⟩ := cut_rows rs (some (k : Int)) (some ((k : Int) + 1))
      have i1 : HT.sIx rs.length 0 (some (k : Int)) = k := by rw [HT.sIx_nat]; omega
      have i2 : HT.sIx rs.length rs.length (some ((k : Int) + 1)) = min (k + 1) rs.length := by
        have := HT.sIx_nat rs.length rs.length (k + 1)
        rw [← this]
        rfl
      have one : ts = (rs[k]?).toList := by
        rw [ets, i1, i2]
        by_cases hk : k < rs.length
        · rw [List.getElem?_eq_getElem hk, List.drop_eq_getElem_cons hk]
          have : min (k + 1) rs.length - k = 1 := by omega
          rw [this]
          rfl
        · rw [List.getElem?_eq_none (by omega), List.drop_of_length_le (by omega), List.take_nil]
          rfl
      refine ⟨_, rfl, _, rfl, (k : Int), rfl, _, rfl, (k : Int), 1, rfl, rfl, (k : Int) + 1, rfl, l, rrefs rs, rfl, SqL.of hl2, fun p np => ?_⟩
      rw [ec]
      have s3 := Same.new (o := .lst (rrefs ts)) np
      have e3 := upd_same (H := H2) (a := p) (o := .lst (rrefs ts))
      generalize (upd H2 p (.lst (rrefs ts))) = H3 at *
      refine ⟨_, rfl, sz 1, fun u nu => ?_⟩
      have s4 := Same.new (o := .lst [V.ref r]) nu
      have e4 := upd_same (H := H3) (a := u) (o := .lst [V.ref r])
      generalize (upd H3 u (.lst [V.ref r])) = H4 at *
      have s24 := s3.trans s4
      have st4 := st2.same s24
      have hl4 := s24 _ _ hl2
      have ro4 := (ro'.same s2).same s24
      have hrow4 := Tk.same (s2.trans s24) _ _ hrow1
      have rts : RowsOk K H4 ts := fun t m => ro4 t (mts t m)
      have kp4 : Kp Z H H4 := kp1.trans (Kp.same (s2.trans s24))
      have tk4 : Tk K H H4 := tk1.trans (Tk.same (s2.trans s24))
      refine ⟨rwsD ts, .list [rowD row], .lst (SqL.of (s4 _ _ e3)) (rws_dp rts), .lst (SqL.of e4) (.cons (.tup hrow4 (sc_dp srow)) .nil), rws_shaped fun t m => (rts t m).2.1, ?_, _, rfl, ?_⟩
      · exact rws_shaped (rs := [(r, row)]) fun t m => by
          rw [List.mem_singleton.mp m]
          exact srow
      have eq1 : PyData.eqv (rwsD ts) (.list [rowD row]) = decide (∃ t, rs[k]? = some t ∧ t.2 = row) := by
        unfold rwsD
        rw [one, eqv_lst]
        cases e : rs[k]? with
        | none =>
          rw [decide_eq_false (fun ⟨t, h, _⟩ => by cases h)]
          show PyData.eqvAll [] _ = _
          rw [eqv_nc]
        | some t =>
          have mt := List.mem_of_getElem? e
          show PyData.eqvAll [rowD t.2] [rowD row] = _
          rw [eqv_cons, eqv_nil, Bool.and_true, eqv_row (ro' t mt).2.1 srow]
          refine decide_eq_decide.mpr ⟨fun h => ⟨t, rfl, h⟩, fun ⟨u, hu, h⟩ => ?_⟩
          rw [Option.some.inj hu]
          exact h
      rw [eq1]
      refine ite2 (fun e => ?_) (fun e => ?_)
      · have no1 : ∀ t, rs[k]? = some t → t.2 ≠ row := fun t ht hr => by
          rw [decide_eq_true ⟨t, ht, hr⟩] at e
          cases e
        have hr3 := st4.rows (rs' := rs.take k ++ [(r, row)] ++ rs.drop k) ev (fun t m => by
          rcases List.mem_append.mp m with m | m
          · rcases List.mem_append.mp m with m | m
            · exact ro4 t (List.mem_of_mem_take m)
            · rw [List.mem_singleton.mp m]
              exact ⟨hrow4, srow, lrow⟩
          · exact ro4 t (List.mem_of_mem_drop m)) (by
            rw [List.length_append, List.length_append, List.length_take, List.length_drop]
            show min k rs.length + 1 + (rs.length - k) ≤ b + 1
            omega)
        have er : (rrefs rs).take (k : Int).toNat ++ [V.ref r] ++ (rrefs rs).drop (k : Int).toNat = rrefs (rs.take k ++ [(r, row)] ++ rs.drop k) := by
          unfold rrefs
          rw [List.map_append, List.map_append, List.map_take, List.map_drop]
          rfl
        refine ⟨_, rfl, .inl ⟨rfl, _, .inl (.inl hl4)⟩, _, rfl, _, rfl, l, rrefs rs, (k : Int), .ref r, rfl, rfl, hl4, ?_, by omega, by omega, ?_⟩
        · rw [rrefs_len]
          exact small (m := 1000) (by omega) (by decide)
        · rw [er]
          exact q _ _ ⟨l, rs, F1, k, how, lk, pl, .inr ⟨rfl, no1⟩⟩ hr3.1 (kp4.trans hr3.2.1) (tk4.trans hr3.2.2)
      · have yes : ∃ t, rs[k]? = some t ∧ t.2 = row := by
          by_cases z : ∃ t, rs[k]? = some t ∧ t.2 = row
          · exact z
          · rw [decide_eq_false z] at e
            exact absurd rfl e
        exact q _ _ ⟨l, rs, F1, k, how, lk, pl, .inl ⟨rfl, yes⟩⟩ st4 kp4 tk4
end
end K1
namespace K1
open PySem PySem.Spec PyProof.Rows L2 Ow Tlz
/-! items -/
inductive It where
  | rel (n : Str) (c : List V)
  | fact (n : Str) (r : Addr) (row : List V)
  | str (n : Str) (c : List V)
  | lay (n : Str) (v : V)
def ItAt (K : PySem.W.Frag) (H : Hp) (a : Addr) : It → Prop
  | .rel n c => SqT K H a (.str "relation" :: .str n :: c)
  | .fact n r row => SqT K H a [.str "fact", .str n, .ref r] ∧ SqT K H r row ∧ (∀ v ∈ row, Scal v) ∧ row.length ≤ 10
  | .str n c => SqT K H a (.str "structure" :: .str n :: c)
  | .lay n v => SqT K H a [.str "layout", .str n, v]
theorem ItAt.tk {K : PySem.W.Frag} {H H' : Hp} {a : Addr} {i : It} (t : Tk K H H') (h : ItAt K H a i) : ItAt K H' a i := by
  cases i with
  | rel n c => exact t _ _ h
  | fact n r row => exact ⟨t _ _ h.1, t _ _ h.2.1, h.2.2⟩
  | str n c => exact t _ _ h
  | lay n v => exact t _ _ h
/-- an item is put into the tables -/
def PutI (R : Tb) (F : Fb) (S : Tb) (L : List (Str × V)) (i : It) (R' : Tb) (F' : Fb) (S' : Tb) (L' : List (Str × V)) : Prop := match i with
  | .rel n c => (∃ q, R' = putG R n (q, c)) ∧ (((valG F n).isSome = true ∧ F' = F) ∨ ∃ q, valG F n = none ∧ F' = F ++ [(n, q, [])]) ∧ S' = S ∧ L' = L
  | .fact n r row => PutF F n r row F' ∧ R' = R ∧ S' = S ∧ L' = L
  | .str n c => (∃ q, S' = putG S n (q, c)) ∧ R' = R ∧ F' = F ∧ L' = L
  | .lay n v => L' = putG L n v ∧ R' = R ∧ F' = F ∧ S' = S
def spPutItem (K : PySem.W.Frag) (C : Addr) : Sp := fun vs H Q _ => ∃ (x a : Addr) (i : It) (dr df ds dl : Addr) (Z : Addr → Prop) (R S : Tb) (F : Fb) (L : List (Str × V)) (b : Nat), vs = [.ref x, .ref a] ∧
  StAt K C Z H x dr df ds dl R F S L b ∧ b ≤ 900 ∧ ItAt K H a i ∧
  ∀ R' F' S' L' H', PutI R F S L i R' F' S' L' → StAt K C Z H' x dr df ds dl R' F' S' L' (b + 1) → Kp Z H H' → Tk K H H' → Q .non H'
abbrev sput_item : Stmt := topS 7
abbrev Nput_item : List Str := ["state", "item", "word", "name"]
theorem scput_item : FnScope Nput_item ["state", "item"] (defScope sput_item) := ⟨rfl, rfl, rfl, by decide +kernel, rfl, by decide +kernel, by decide +kernel⟩
section
variable {K : PySem.W.Frag} {C x dr df ds dl : Addr} {Z : Addr → Prop} {H H' : Hp} {R S : Tb} {F : Fb} {L : List (Str × V)} {b : Nat}
theorem none_upd {d : Addr} {o : HO} (nw : ∀ a, H a = none → Z a) : ∀ a, (upd H d o) a = none → Z a := fun a n => by
  by_cases w : a = d
  · rw [w, upd_same] at n
    cases n
  · rw [upd_ne w] at n
    exact nw a n
theorem StAt.rel {n : Str} {q : Addr} {c : List V} (h : StAt K C Z H x dr df ds dl R F S L b) (hq : SqT K H q c) :
    StAt K C Z (upd H dr (.dK (putK (kvR R) (Sum.inr n) (.ref q)))) x dr df ds dl (putG R n (q, c)) F S L (b + 1) := by
  obtain ⟨⟨dx, ob⟩, r, rt, f, ft, fz, fp, fn, s', st, l, z, ne, nw, ln⟩ := h
  have tk : Tk K H (upd H dr (.dK (putK (kvR R) (Sum.inr n) (.ref q)))) := Tk.dK r
  refine ⟨⟨dx, by rw [upd_ne (show x ≠ dr from fun w => z.2.2.2.2 (by rw [w]; exact z.1))]; exact ob⟩, ?_, fun e m => ?_, by rw [upd_ne ne.1.symm]; exact f, fun e m => ?_, fz, fp, fn, by rw [upd_ne ne.2.1.symm]; exact s', fun e m => tk _ _ (st e m),
    by rw [upd_ne ne.2.2.1.symm]; exact l, z, ne, none_upd nw, ?_⟩
  · rw [upd_same]
    have := kvG_put (fun b : Addr × List V => V.ref b.1) R n (q, c)
    exact congrArg (fun t => some (HO.dK t)) this
  · rcases putG_mem m with w | ⟨w, _⟩
    · rw [w]; exact tk _ _ hq
    · exact tk _ _ (rt e w)
  · have n1 : e.2.1 ≠ dr := fun w => by
      have := (ft e m).1
      rw [w, r] at this
      cases this
    exact ⟨by rw [upd_ne n1]; exact (ft e m).1, (ft e m).2.1.tk tk, by have := (ft e m).2.2; omega⟩
  · have := putG_len R n (q, c)
    omega
theorem StAt.stru {n : Str} {q : Addr} {c : List V} (h : StAt K C Z H x dr df ds dl R F S L b) (hq : SqT K H q c) :
    StAt K C Z (upd H ds (.dK (putK (kvR S) (Sum.inr n) (.ref q)))) x dr df ds dl R F (putG S n (q, c)) L (b + 1) := by
  obtain ⟨⟨dx, ob⟩, r, rt, f, ft, fz, fp, fn, s', st, l, z, ne, nw, ln⟩ := h
  have tk : Tk K H (upd H ds (.dK (putK (kvR S) (Sum.inr n) (.ref q)))) := Tk.dK s'
  refine ⟨⟨dx, by rw [upd_ne (show x ≠ ds from fun w => z.2.2.2.2 (by rw [w]; exact z.2.2.1))]; exact ob⟩, by rw [upd_ne ne.2.1]; exact r, fun e m => tk _ _ (rt e m), by rw [upd_ne ne.2.2.2.1]; exact f, fun e m => ?_, fz, fp, fn, ?_, fun e m => ?_,
    by rw [upd_ne ne.2.2.2.2.2.symm]; exact l, z, ne, none_upd nw, ?_⟩
  · have n1 : e.2.1 ≠ ds := fun w => by
      have := (ft e m).1
      rw [w, s'] at this
      cases this
    exact ⟨by rw [upd_ne n1]; exact (ft e m).1, (ft e m).2.1.tk tk, by have := (ft e m).2.2; omega⟩
  · rw [upd_same]
    have := kvG_put (fun b : Addr × List V => V.ref b.1) S n (q, c)
    exact congrArg (fun t => some (HO.dK t)) this
  · rcases putG_mem m with w | ⟨w, _⟩
    · rw [w]; exact tk _ _ hq
    · exact tk _ _ (st e w)
  · have := putG_len S n (q, c)
    omega
theorem StAt.lay {n : Str} {v : V} (h : StAt K C Z H x dr df ds dl R F S L b) :
    StAt K C Z (upd H dl (.dK (putK (kvG id L) (Sum.inr n) v))) x dr df ds dl R F S (putG L n v) (b + 1) := by
  obtain ⟨⟨dx, ob⟩, r, rt, f, ft, fz, fp, fn, s', st, l, z, ne, nw, ln⟩ := h
  have tk : Tk K H (upd H dl (.dK (putK (kvG id L) (Sum.inr n) v))) := Tk.dK l
  refine ⟨⟨dx, by rw [upd_ne (show x ≠ dl from fun w => z.2.2.2.2 (by rw [w]; exact z.2.2.2.1))]; exact ob⟩, by rw [upd_ne ne.2.2.1]; exact r, fun e m => tk _ _ (rt e m), by rw [upd_ne ne.2.2.2.2.1]; exact f, fun e m => ?_, fz, fp, fn,
    by rw [upd_ne ne.2.2.2.2.2]; exact s', fun e m => tk _ _ (st e m), ?_, z, ne, none_upd nw, ?_⟩
  · have n1 : e.2.1 ≠ dl := fun w => by
      have := (ft e m).1
      rw [w, l] at this
      cases this
    exact ⟨by rw [upd_ne n1]; exact (ft e m).1, (ft e m).2.1.tk tk, by have := (ft e m).2.2; omega⟩
  · rw [upd_same]
    exact congrArg (fun t => some (HO.dK t)) (kvG_put id L n v)
  · have := putG_len L n v
    omega
end
theorem kvG_len {β : Type} (vv : β → V) (l : List (Str × β)) : (kvG vv l).length = l.length := by unfold kvG; rw [List.length_map]
theorem cut2 (u v : V) (c : List V) : cutV (u :: v :: c) (some 2) none = c ∧ ¬ (HT.sIx (u :: v :: c).length 0 (some 2) = 0 ∧ HT.sIx (u :: v :: c).length (u :: v :: c).length none = (u :: v :: c).length) := by
  have i1 : HT.sIx (u :: v :: c).length 0 (some 2) = 2 := by
    have := HT.sIx_nat (u :: v :: c).length 0 2
    rw [show ((2 : Nat) : Int) = 2 from rfl] at this
    rw [this, List.length_cons, List.length_cons]
    omega
  refine ⟨?_, fun z => by rw [i1] at z; omega⟩
  unfold cutV
  rw [i1, HT.sIx_none]
  show c.take ((c.length + 1 + 1) - 2) = c
  exact List.take_of_length_le (by omega)
section
variable {P : Program} {w : World} {K : PySem.W.Frag} {mg : Str → Option Value} {base : Heap} {C : Addr}
theorem ok_putitem {f : Addr} {fd : FuncData} (F0 : Fun K "put_item" "put_item" sput_item f fd) (T : Bl mg) (X : Txt K mg C)
    (Dput_fact : Kn P w K mg base 4 "put_fact" ["state", "name", "row"] (spPutFact K C)) :
    FnOk P w K mg base CX0 5 f fd ["state", "item"] (spPutItem K C) := by
  refine F0.ok scput_item (fun vs H Q E h => ?_) (fun cdv A outer s H vs Q E hr h => ?_)
  · obtain ⟨x, a, i, dr, df, ds, dl, Z, R, S, F, L, b, rfl, _⟩ := h
    rfl
  · obtain ⟨x, a, i, dr, df, ds, dl, Z, R, S, F, L, b, rfl, st, lb, hi, q⟩ := h
    have hu := hu_of hr
    refine ⟨_, (pss_cons (ps_set (i := 2) scput_item.nd rfl (.inl rfl) (pe_ix ix_tup (pv 1) pe_int (fun _ _ => rfl)))
      (pss_cons (ps_set (i := 3) scput_item.nd rfl (.inl rfl) (pe_ix ix_tup (pv 1) pe_int (fun _ _ => rfl)))
      (pss_one (ps_if (pt_cmpR op_eq (pv 2) pe_str (nomark _)) (pss_cons (ps_dput hu (pe_fld (pv 0) rfl) (pv 3) (pe_slice sl_tupA (pv 1) (po_some pe_int) po_none) rfl)
      (pss_one (ps_expr (pe_dsetd (pe_fld (pv 0) rfl) (pv 3) (pe_lst pa_nil) ⟨rfl, rfl, rfl, rfl⟩)))) (pss_one (ps_if (pt_cmpR op_eq (pv 2) pe_str (nomark _)) (pss_one (ps_expr (pe_kn Dput_fact hr (pa_cons (pv 0) (pa_cons (pv 3) (pa_cons (pe_ix ix_tup (pv 1) pe_int (fun _ _ => rfl)) pa_nil)))))) (pss_one (ps_if (pt_cmpR op_eq (pv 2) pe_str (nomark _)) (pss_one (ps_dput hu (pe_fld (pv 0) rfl) (pv 3) (pe_slice sl_tupA (pv 1) (po_some pe_int) po_none) rfl)) (pss_one (ps_dput hu (pe_fld (pv 0) rfl) (pv 3) (pe_ix ix_tup (pv 1) pe_int (fun _ _ => rfl)) rfl)))))))))), ?_⟩
    have big : ∀ {β : Type} (vv : β → V) (l : List (Str × β)), l.length ≤ b → (kvG vv l).length < sizeLine := fun vv l hl => by
      rw [kvG_len]
      exact small (m := 1000) (by omega) (by decide)
    have n1 : ∀ {u v : Str}, u ≠ v → ¬ decide (V.str u = V.str v) = true := fun h e => h (V.str.inj (of_decide_eq_true e))
    cases i with
    | rel n c =>
      have ht : SqT K H a (.str "relation" :: .str n :: c) := hi
      obtain ⟨dx, ob⟩ := st.ob
      refine ⟨_, rfl, a, _, 0, _, rfl, rfl, ht, at_of (j := 0) rfl rfl, _, rfl, a, _, 1, _, rfl, rfl, ht, at_of (j := 1) rfl rfl, ?_⟩
      refine ⟨_, rfl, rfl, _, rfl, ite2 (fun _ => ?_) (fun e => absurd (decide_eq_true rfl) e)⟩
      refine ⟨_, rfl, 2, rfl, a, _, rfl, ht, fun w => absurd w (cut2 _ _ c).2, fun _ p np => ?_⟩
      rw [(cut2 _ _ c).1]
      have s1 := Same.new (o := .tup c) np
      have e1 := upd_same (H := H) (a := p) (o := .tup c)
      generalize (upd H p (.tup c)) = H1 at *
      have st1 := st.same s1
      have st2 := st1.rel (n := n) (SqT.of e1)
      have k1 : Kp Z H1 (upd H1 dr (.dK (putK (kvR R) (Sum.inr n) (.ref p)))) := Kp.put st.z.1
      have t1 : Tk K H1 (upd H1 dr (.dK (putK (kvR R) (Sum.inr n) (.ref p)))) := Tk.dK st1.r
      have dp := DPut.k (k := Sum.inr n) (v := .ref p) st1.r (big _ R st.ln.1)
      refine ⟨_, rfl, x, C, dx, _, _, rfl, s1 _ _ ob, X.cl, X.nR, flds_r _ _ _ _, _, rfl, dr, _, rfl, dp, ?_⟩
      have k2 : Kp Z H _ := (Kp.same s1).trans k1
      have t2 : Tk K H _ := (Tk.same s1).trans t1
      generalize (upd H1 dr (.dK (putK (kvR R) (Sum.inr n) (.ref p)))) = H2 at *
      obtain ⟨dx2, ob2⟩ := st2.ob
      refine ⟨_, rfl, x, C, dx2, _, _, rfl, ob2, X.cl, X.nF, flds_f _ _ _ _, df, rfl, .inl ⟨_, .inl st2.f⟩, _, rfl, sz 0, fun o no => ?_⟩
      have s3 := Same.new (o := .lst []) no
      have st3 := st2.same s3
      have zo := st2.nw o no
      have rr : PutI R F S L (.rel n c) (putG R n (p, c)) F S L ∨ valG F n = none := by
        cases e : valG F n with
        | none => exact .inr rfl
        | some v => exact .inl ⟨⟨p, rfl⟩, .inl ⟨by rw [e]; rfl, rfl⟩, rfl, rfl⟩
      refine ⟨kvF F, Sum.inr n, st3.f, rfl, big _ F st.ln.2.1, fun v hv => ?_, fun hv => ?_⟩
      · rcases rr with rr | rr
        · exact q _ _ _ _ _ rr st3 (k2.trans (Kp.same s3)) (t2.trans (Tk.same s3))
        · rw [kvF_val, rr] at hv
          cases hv
      · rw [kvF_val] at hv
        have e : valG F n = none := by
          cases e : valG F n with
          | none => rfl
          | some a => rw [e] at hv; cases hv
        have nq : ∀ e ∈ F, e.2.1 ≠ o := fun e m w => by
          have := (st2.ft e m).1
          rw [w, no] at this
          cases this
        have st4 := st3.name e upd_same zo nq
        obtain ⟨ob, r, rt, f, ft, fz, fp, fn, s', st', l', z, ne, nw, ln⟩ := st4
        have l2 : (putG R n (p, c)).length ≤ b + 1 := by have := putG_len R n (p, c); have := st.ln; omega
        have l3 : (F ++ [(n, o, ([] : List (Addr × List V)))]).length ≤ b + 1 := by rw [List.length_append]; have := st.ln; show F.length + 1 ≤ _; omega
        have l4 := st.ln
        refine q _ _ _ _ _ ⟨⟨p, rfl⟩, .inr ⟨o, e, rfl⟩, rfl, rfl⟩ ⟨ob, r, rt, f, fun u m => ⟨(ft u m).1, (ft u m).2.1, ?_⟩, fz, fp, fn, s', st', l', z, ne, nw, l2, l3, by omega, by omega⟩
          ((k2.trans (Kp.same s3)).trans (Kp.put st.z.2.1)) ((t2.trans (Tk.same s3)).trans (Tk.dK st3.f))
        rcases List.mem_append.mp m with m | m
        · have := (st.ft u m).2.2
          omega
        · rw [List.mem_singleton.mp m]
          exact Nat.zero_le _
    | fact n r row =>
      obtain ⟨ht, hrow, srow, lrow⟩ := hi
      refine ⟨_, rfl, a, _, 0, _, rfl, rfl, ht, at_of (j := 0) rfl rfl, _, rfl, a, _, 1, _, rfl, rfl, ht, at_of (j := 1) rfl rfl, ?_⟩
      refine ⟨_, rfl, rfl, _, rfl, ite2 (fun e => absurd e (n1 (by decide +kernel))) (fun _ => ?_)⟩
      refine ⟨_, rfl, rfl, _, rfl, ite2 (fun _ => ?_) (fun e => absurd (decide_eq_true rfl) e)⟩
      refine ⟨_, rfl, _, rfl, _, rfl, a, _, 2, _, rfl, rfl, ht, at_of (j := 2) rfl rfl, x, r, n, row, dr, df, ds, dl, Z, R, S, F, L, b, rfl, st, lb, hrow, srow, lrow, fun F' H' pf st' kp tk => ?_⟩
      exact q _ _ _ _ _ ⟨pf, rfl, rfl, rfl⟩ st' kp tk
    | str n c =>
      have ht : SqT K H a (.str "structure" :: .str n :: c) := hi
      obtain ⟨dx, ob⟩ := st.ob
      refine ⟨_, rfl, a, _, 0, _, rfl, rfl, ht, at_of (j := 0) rfl rfl, _, rfl, a, _, 1, _, rfl, rfl, ht, at_of (j := 1) rfl rfl, ?_⟩
      refine ⟨_, rfl, rfl, _, rfl, ite2 (fun e => absurd e (n1 (by decide +kernel))) (fun _ => ?_)⟩
      refine ⟨_, rfl, rfl, _, rfl, ite2 (fun e => absurd e (n1 (by decide +kernel))) (fun _ => ?_)⟩
      refine ⟨_, rfl, rfl, _, rfl, ite2 (fun _ => ?_) (fun e => absurd (decide_eq_true rfl) e)⟩
      refine ⟨_, rfl, 2, rfl, a, _, rfl, ht, fun w => absurd w (cut2 _ _ c).2, fun _ p np => ?_⟩
      rw [(cut2 _ _ c).1]
      have s1 := Same.new (o := .tup c) np
      have e1 := upd_same (H := H) (a := p) (o := .tup c)
      generalize (upd H p (.tup c)) = H1 at *
      have st1 := st.same s1
      have st2 := st1.stru (n := n) (SqT.of e1)
      have dp := DPut.k (k := Sum.inr n) (v := .ref p) st1.s (big _ S st.ln.2.2.1)
      refine ⟨_, rfl, x, C, dx, _, _, rfl, s1 _ _ ob, X.cl, X.nS, flds_s _ _ _ _, _, rfl, ds, _, rfl, dp, ?_⟩
      exact q _ _ _ _ _ ⟨⟨p, rfl⟩, rfl, rfl, rfl⟩ st2 ((Kp.same s1).trans (Kp.put st.z.2.2.1)) ((Tk.same s1).trans (Tk.dK st1.s))
    | lay n v =>
      have ht : SqT K H a [.str "layout", .str n, v] := hi
      obtain ⟨dx, ob⟩ := st.ob
      refine ⟨_, rfl, a, _, 0, _, rfl, rfl, ht, at_of (j := 0) rfl rfl, _, rfl, a, _, 1, _, rfl, rfl, ht, at_of (j := 1) rfl rfl, ?_⟩
      refine ⟨_, rfl, rfl, _, rfl, ite2 (fun e => absurd e (n1 (by decide +kernel))) (fun _ => ?_)⟩
      refine ⟨_, rfl, rfl, _, rfl, ite2 (fun e => absurd e (n1 (by decide +kernel))) (fun _ => ?_)⟩
      refine ⟨_, rfl, rfl, _, rfl, ite2 (fun e => absurd e (n1 (by decide +kernel))) (fun _ => ?_)⟩
      have dp := DPut.k (k := Sum.inr n) (v := v) st.l (big _ L st.ln.2.2.2)
      refine ⟨_, rfl, a, _, 2, _, rfl, rfl, ht, at_of (j := 2) rfl rfl, _, rfl, x, C, dx, _, _, rfl, ob, X.cl, X.nL, flds_l _ _ _ _, _, rfl, dl, _, rfl, dp, ?_⟩
      exact q _ _ _ _ _ ⟨rfl, rfl, rfl, rfl⟩ st.lay (Kp.put st.z.2.2.2.1) (Tk.dK st.l)
end
end K1
namespace K1
open PySem PySem.Spec PyProof.Rows L2 Ow Tlz
theorem SqL.gw {K : PySem.W.Frag} {H H' : Hp} {x a C dx : Addr} {fs : List (Str × V)} {xs : List V} (e : H x = some (.ins C dx fs)) (g : Gw x H H') (h : SqL K H a xs) : SqL K H' a xs := by
  rcases h with (h | ⟨o, h⟩) | h
  · exact .inl (.inl (g _ _ (fun z => by rw [z, e] at h; cases h) h))
  · exact .inl (.inr ⟨o, g _ _ (fun z => by rw [z, e] at h; cases h) h⟩)
  · exact .inr h
theorem Tk.gwi {K : PySem.W.Frag} {H H' : Hp} {x C dx : Addr} {fs : List (Str × V)} (e : H x = some (.ins C dx fs)) (g : Gw x H H') : Tk K H H' := fun a xs h => by
  rcases h with (h | ⟨o, h⟩) | h
  · exact .inl (.inl (g _ _ (fun z => by rw [z, e] at h; cases h) h))
  · exact .inl (.inr ⟨o, g _ _ (fun z => by rw [z, e] at h; cases h) h⟩)
  · exact .inr h
/-- the tables behind some items, put one after another -/
inductive Puts : List It → Tb → Fb → Tb → List (Str × V) → Prop
  | nil : Puts [] [] [] [] []
  | snoc {is : List It} {i : It} {R S R' S' : Tb} {F F' : Fb} {L L' : List (Str × V)} : Puts is R F S L → PutI R F S L i R' F' S' L' → Puts (is ++ [i]) R' F' S' L'
theorem putF_len (f : Str) (v : V) : ∀ fs : List (Str × V), (putF f v fs).length ≤ fs.length + 1
  | [] => Nat.le_refl _
  | (g, x) :: r => by
    rw [putF]
    split
    · exact Nat.le_succ _
    · exact Nat.succ_le_succ (putF_len f v r)
def spInit (K : PySem.W.Frag) (C : Addr) : Sp := fun vs H Q _ => ∃ (x a dx : Addr) (its : List (Addr × It)), vs = [.ref x, .ref a] ∧ H x = some (.ins C dx []) ∧ SqL K H a (its.map fun t => .ref t.1) ∧ (∀ t ∈ its, ItAt K H t.1 t.2) ∧ its.length ≤ 300 ∧
  ∀ (dr df ds dl : Addr) (R S : Tb) (F : Fb) (L : List (Str × V)) H', StAt K C (fun b => H b = none) H' x dr df ds dl R F S L 300 → Puts (its.map (·.2)) R F S L → Gw x H H' → Q .non H'
def spInit0 (K : PySem.W.Frag) (C : Addr) : Sp := fun vs H Q _ => ∃ (x a dx : Addr), vs = [.ref x, .ref a] ∧ H x = some (.ins C dx []) ∧ SqT K H a [] ∧
  ∀ (dr df ds dl : Addr) H', StAt K C (fun b => H b = none) H' x dr df ds dl [] [] [] [] 300 → Gw x H H' → Q .non H'
abbrev sState : Stmt := topS 8
abbrev sInit : Stmt := inClass sState 0
abbrev NInit : List Str := ["self", "items", "item"]
theorem scInit : FnScope NInit ["self", "items"] (defScope sInit) := ⟨rfl, rfl, rfl, by decide +kernel, rfl, by decide +kernel, by decide +kernel⟩
/-- the four fields of a new State -/
structure New (C : Addr) (H H' : Hp) (x d1 d2 d3 d4 : Addr) : Prop where
  ob : ∃ dx, H' x = some (.ins C dx (flds (.ref d1) (.ref d2) (.ref d3) (.ref d4)))
  e1 : H' d1 = some (.dK [])
  e2 : H' d2 = some (.dK [])
  e3 : H' d3 = some (.dK [])
  e4 : H' d4 = some (.dK [])
  n1 : H d1 = none
  n2 : H d2 = none
  n3 : H d3 = none
  n4 : H d4 = none
  ne : d1 ≠ d2 ∧ d1 ≠ d3 ∧ d1 ≠ d4 ∧ d2 ≠ d3 ∧ d2 ≠ d4 ∧ d3 ≠ d4
  gw : Gw x H H'
theorem New.st {K : PySem.W.Frag} {C : Addr} {H H' : Hp} {x dx d1 d2 d3 d4 : Addr} (n : New C H H' x d1 d2 d3 d4) (hx : H x = some (.ins C dx [])) : StAt K C (fun b => H b = none) H' x d1 d2 d3 d4 [] [] [] [] 0 :=
  ⟨n.ob, n.e1, (fun _ m => nomatch m), n.e2, (fun _ m => nomatch m), (fun _ m => nomatch m), .nil, .nil, n.e3, (fun _ m => nomatch m), n.e4, ⟨n.n1, n.n2, n.n3, n.n4, by rw [hx]; exact fun z => nomatch z⟩, n.ne,
    fun a h => by
      by_cases w : a = x
      · obtain ⟨dx, ob⟩ := n.ob
        rw [w, ob] at h
        cases h
      · exact n.gw.free h w, ⟨Nat.le_refl _, Nat.le_refl _, Nat.le_refl _, Nat.le_refl _⟩⟩
theorem fund_ok {P : Program} {w : World} {K : PySem.W.Frag} {mg : Str → Option Value} {base : Heap} {x qual : Str} {st : Stmt} {dvs : List V} {kws : List (Str × V)} {f : Addr} {fd : FuncData} {N ps : List Str} {k : Nat} {sp : Sp}
    (F : FunD K x qual (defArgs st) (defBody st) (defScope st) dvs kws f fd) (S : FnScope N ps (defScope st)) (len : ∀ vs H Q E, sp vs H Q E → vs.length = ps.length)
    (hbody : ∀ (cdv : Value) (A : Around) (outer : List Env) (s : Shared) (H : Hp) (vs : List V) (Q : VK) (E : XK), Room k (A.deeper (envOfC qual (defScope st) s.heap.objs.size f cdv)) → sp vs H Q E →
      ∃ t, PSs (cxOf CX0 P w K mg base N qual (defScope st) f cdv A outer s H E).nox (defBody st) t ∧ t { nx := fun _ H' => Q .non H', rt := Q } (start N vs) H) : FnOk P w K mg base CX0 (k + 1) f fd ps sp := by
  refine F.ok S len fun cdv A outer s H vs Q E hr hsp => ?_
  obtain ⟨t, h, q⟩ := hbody cdv A outer s H vs Q E hr hsp
  exact ⟨t, h.nox, q⟩
section
variable {P : Program} {w : World} {K : PySem.W.Frag} {mg : Str → Option Value} {base : Heap} {C : Addr}
theorem ok_init {f : Addr} {fd : FuncData} {dvs : List V} {kws : List (Str × V)} (F0 : FunD K "__init__" "State.__init__" (defArgs sInit) (defBody sInit) (defScope sInit) dvs kws f fd) (T : Txt K mg C)
    (Dput_item : Kn P w K mg base 5 "put_item" ["state", "item"] (spPutItem K C)) :
    FnOk P w K mg base CX0 6 f fd ["self", "items"] (spInit K C) := by
  refine fund_ok F0 scInit (fun vs H Q E h => ?_) (fun cdv A outer s H vs Q E hr h => ?_)
  · obtain ⟨x, a, dx, its, rfl, _⟩ := h
    rfl
  · obtain ⟨x, a, dx, its, rfl, hx, ha, hi, li, q⟩ := h
    refine ⟨_, (pss_cons (ps_fld (pv 0) pe_dnewK rfl) (pss_cons (ps_fld (pv 0) pe_dnewK rfl) (pss_cons (ps_fld (pv 0) pe_dnewK rfl) (pss_cons (ps_fld (pv 0) pe_dnewK rfl)
      (pss_one (ps_for PassesOwn.never rfl (pi_list (pv 1)) (pg_name (i := 2) scInit.nd rfl (.inl rfl)) (pss_one (ps_expr (pe_kn Dput_item hr (pa_cons (pv 0) (pa_cons (pv 2) pa_nil))))))))))), ?_⟩
    refine fun d1 h1 => ?_
    have x1 : x ≠ d1 := ne_of_none hx h1
    refine ⟨_, rfl, x, C, dx, [], rfl, (by rw [upd_ne x1]; exact hx), T.cl, T.nR, (by show 0 < 1000; decide), ?_⟩
    refine fun d2 h2 => ?_
    have x2 : x ≠ d2 := ne_of_none upd_same h2
    refine ⟨_, rfl, x, C, dx, _, rfl, (by rw [upd_ne x2]; exact upd_same), T.cl, T.nF, (by show 1 < 1000; decide), ?_⟩
    refine fun d3 h3 => ?_
    have x3 : x ≠ d3 := ne_of_none upd_same h3
    refine ⟨_, rfl, x, C, dx, _, rfl, (by rw [upd_ne x3]; exact upd_same), T.cl, T.nS, (by
      have : (putF "facts" (V.ref d2) (putF "relations" (V.ref d1) [])).length ≤ 2 := by
        have := putF_len "facts" (V.ref d2) (putF "relations" (V.ref d1) [])
        exact Nat.le_trans this (Nat.succ_le_succ (putF_len "relations" (V.ref d1) []))
      exact Nat.lt_of_le_of_lt this (by decide)), ?_⟩
    refine fun d4 h4 => ?_
    have x4 : x ≠ d4 := ne_of_none upd_same h4
    refine ⟨_, rfl, x, C, dx, _, rfl, (by rw [upd_ne x4]; exact upd_same), T.cl, T.nL, (by
      have a1 := putF_len "structures" (V.ref d3) (putF "facts" (V.ref d2) (putF "relations" (V.ref d1) []))
      have a2 := putF_len "facts" (V.ref d2) (putF "relations" (V.ref d1) [])
      have a3 := putF_len "relations" (V.ref d1) []
      have a4 : ([] : List (Str × V)).length = 0 := rfl
      omega), ?_⟩
    have nw : New C H (upd (upd (upd (upd (upd (upd (upd (upd H d1 (.dK [])) x (.ins C dx (putF "relations" (.ref d1) []))) d2 (.dK [])) x (.ins C dx (putF "facts" (.ref d2) (putF "relations" (.ref d1) [])))) d3 (.dK [])) x
        (.ins C dx (putF "structures" (.ref d3) (putF "facts" (.ref d2) (putF "relations" (.ref d1) []))))) d4 (.dK [])) x (.ins C dx (putF "layouts" (.ref d4) (putF "structures" (.ref d3) (putF "facts" (.ref d2) (putF "relations" (.ref d1) [])))))) x d1 d2 d3 d4 := by
      have f2 : (upd H d1 (.dK [])) d2 = none := by rw [← upd_ne (H := upd H d1 (.dK [])) (a := x) (o := .ins C dx (putF "relations" (.ref d1) [])) x2.symm]; exact h2
      have n12 : d1 ≠ d2 := ne_of_none upd_same f2
      have f2' : H d2 = none := by rw [← upd_ne (H := H) (a := d1) (o := .dK []) n12.symm]; exact f2
      have f3a := h3
      rw [upd_ne x3.symm] at f3a
      have n23 : d2 ≠ d3 := ne_of_none upd_same f3a
      have f3b : (upd H d1 (.dK [])) d3 = none := by
        rw [upd_ne n23.symm, upd_ne x3.symm] at f3a
        exact f3a
      have n13 : d1 ≠ d3 := ne_of_none upd_same f3b
      have f3' : H d3 = none := by rw [upd_ne n13.symm] at f3b; exact f3b
      rw [upd_ne x4.symm] at h4
      have n34 : d3 ≠ d4 := ne_of_none upd_same h4
      rw [upd_ne n34.symm, upd_ne x4.symm] at h4
      have n24 : d2 ≠ d4 := ne_of_none upd_same h4
      rw [upd_ne n24.symm, upd_ne x4.symm] at h4
      have n14 : d1 ≠ d4 := ne_of_none upd_same h4
      rw [upd_ne n14.symm] at h4
      refine ⟨⟨dx, upd_same⟩, ?_, ?_, ?_, ?_, h1, f2', f3', h4, ⟨n12, n13, n14, n23, n24, n34⟩, ?_⟩
      · rw [upd_ne x1.symm, upd_ne n14, upd_ne x1.symm, upd_ne n13, upd_ne x1.symm, upd_ne n12, upd_ne x1.symm, upd_same]
      · rw [upd_ne x2.symm, upd_ne n24, upd_ne x2.symm, upd_ne n23, upd_ne x2.symm, upd_same]
      · rw [upd_ne x3.symm, upd_ne n34, upd_ne x3.symm, upd_same]
      · rw [upd_ne x4.symm, upd_same]
      · intro b o hb e
        rw [upd_ne hb, upd_ne (ne_of_none e h4), upd_ne hb, upd_ne (ne_of_none e f3'), upd_ne hb, upd_ne (ne_of_none e f2'), upd_ne hb, upd_ne (ne_of_none e h1)]
        exact e
    generalize (upd (upd (upd (upd (upd (upd (upd (upd H d1 (.dK [])) x (.ins C dx (putF "relations" (.ref d1) []))) d2 (.dK [])) x (.ins C dx (putF "facts" (.ref d2) (putF "relations" (.ref d1) [])))) d3 (.dK [])) x
        (.ins C dx (putF "structures" (.ref d3) (putF "facts" (.ref d2) (putF "relations" (.ref d1) []))))) d4 (.dK [])) x (.ins C dx (putF "layouts" (.ref d4) (putF "structures" (.ref d3) (putF "facts" (.ref d2) (putF "relations" (.ref d1) [])))))) = H1 at nw
    have st0 := nw.st (K := K) hx
    have sl1 := SqL.gw hx nw.gw ha
    refine ⟨_, rfl, a, rfl, ⟨_, sl1⟩, for_list (K := K) (a := a) (xs := its.map fun t => .ref t.1) (fun i σ H4 => ∃ (y2 : Option V) (R S : Tb) (F : Fb) (L : List (Str × V)), σ = [some (.ref x), some (.ref a), y2] ∧
        StAt K C (fun b => H b = none) H4 x d1 d2 d3 d4 R F S L i ∧ Puts ((its.take i).map (·.2)) R F S L ∧ Gw x H H4)
      ⟨none, [], [], [], [], rfl, st0, .nil, nw.gw⟩ (fun i σ H4 _ hP => ?_) (fun i y σ H4 hy hP => ?_) (fun σ H4 hP => ?_)⟩
    · obtain ⟨_, _, _, _, _, _, _, _, g⟩ := hP
      exact SqL.gw hx g ha
    · obtain ⟨y2, R, S, F, L, rfl, st, pu, g⟩ := hP
      rw [List.getElem?_map] at hy
      cases e : its[i]? with
      | none => rw [e] at hy; cases hy
      | some t =>
        rw [e] at hy
        have ey : V.ref t.1 = y := Option.some.inj hy
        subst ey
        have il : i < its.length := (List.getElem?_eq_some_iff.mp e).1
        refine ⟨_, rfl, _, rfl, x, t.1, t.2, d1, d2, d3, d4, _, R, S, F, L, i, rfl, st, by omega, (hi t (List.mem_of_getElem? e)).tk (Tk.gwi hx g), fun R' F' S' L' H' pi st' kp tk => ?_⟩
        refine ⟨_, R', S', F', L', rfl, st', ?_, fun b o nb hb => kp b o (fun (z : H b = none) => by rw [hb] at z; cases z) (g b o nb hb)⟩
        have e2 : its.take (i + 1) = its.take i ++ [t] := by rw [List.take_add_one, e]; rfl
        rw [e2, List.map_append]
        exact .snoc pu pi
    · obtain ⟨y2, R, S, F, L, rfl, st, pu, g⟩ := hP
      rw [List.length_map] at st pu
      rw [List.take_length] at pu
      exact q _ _ _ _ _ _ _ _ _ (st.up (by omega)) pu g
theorem ok_init0 {f : Addr} {fd : FuncData} {dvs : List V} {kws : List (Str × V)} (F0 : FunD K "__init__" "State.__init__" (defArgs sInit) (defBody sInit) (defScope sInit) dvs kws f fd) (T : Txt K mg C)
    (Dput_item : Kn P w K mg base 5 "put_item" ["state", "item"] (spPutItem K C)) :
    FnOk P w K mg base CX0 6 f fd ["self", "items"] (spInit0 K C) := by
  refine fund_ok F0 scInit (fun vs H Q E h => ?_) (fun cdv A outer s H vs Q E hr h => ?_)
  · obtain ⟨x, a, dx, rfl, _⟩ := h
    rfl
  · obtain ⟨x, a, dx, rfl, hx, ha, q⟩ := h
    refine ⟨_, (pss_cons (ps_fld (pv 0) pe_dnewK rfl) (pss_cons (ps_fld (pv 0) pe_dnewK rfl) (pss_cons (ps_fld (pv 0) pe_dnewK rfl) (pss_cons (ps_fld (pv 0) pe_dnewK rfl)
      (pss_one (ps_for PassesOwn.never rfl (pi_tup (pv 1)) (pg_name (i := 2) scInit.nd rfl (.inl rfl)) (pss_one (ps_expr (pe_kn Dput_item hr (pa_cons (pv 0) (pa_cons (pv 2) pa_nil))))))))))), ?_⟩
    refine fun d1 h1 => ?_
    have x1 : x ≠ d1 := ne_of_none hx h1
    refine ⟨_, rfl, x, C, dx, [], rfl, (by rw [upd_ne x1]; exact hx), T.cl, T.nR, (by show 0 < 1000; decide), ?_⟩
    refine fun d2 h2 => ?_
    have x2 : x ≠ d2 := ne_of_none upd_same h2
    refine ⟨_, rfl, x, C, dx, _, rfl, (by rw [upd_ne x2]; exact upd_same), T.cl, T.nF, (by show 1 < 1000; decide), ?_⟩
    refine fun d3 h3 => ?_
    have x3 : x ≠ d3 := ne_of_none upd_same h3
    refine ⟨_, rfl, x, C, dx, _, rfl, (by rw [upd_ne x3]; exact upd_same), T.cl, T.nS, (by
      have : (putF "facts" (V.ref d2) (putF "relations" (V.ref d1) [])).length ≤ 2 := by
        have := putF_len "facts" (V.ref d2) (putF "relations" (V.ref d1) [])
        exact Nat.le_trans this (Nat.succ_le_succ (putF_len "relations" (V.ref d1) []))
      exact Nat.lt_of_le_of_lt this (by decide)), ?_⟩
    refine fun d4 h4 => ?_
    have x4 : x ≠ d4 := ne_of_none upd_same h4
    refine ⟨_, rfl, x, C, dx, _, rfl, (by rw [upd_ne x4]; exact upd_same), T.cl, T.nL, (by
      have a1 := putF_len "structures" (V.ref d3) (putF "facts" (V.ref d2) (putF "relations" (V.ref d1) []))
      have a2 := putF_len "facts" (V.ref d2) (putF "relations" (V.ref d1) [])
      have a3 := putF_len "relations" (V.ref d1) []
      have a4 : ([] : List (Str × V)).length = 0 := rfl
      omega), ?_⟩
    have nw : New C H (upd (upd (upd (upd (upd (upd (upd (upd H d1 (.dK [])) x (.ins C dx (putF "relations" (.ref d1) []))) d2 (.dK [])) x (.ins C dx (putF "facts" (.ref d2) (putF "relations" (.ref d1) [])))) d3 (.dK [])) x
        (.ins C dx (putF "structures" (.ref d3) (putF "facts" (.ref d2) (putF "relations" (.ref d1) []))))) d4 (.dK [])) x (.ins C dx (putF "layouts" (.ref d4) (putF "structures" (.ref d3) (putF "facts" (.ref d2) (putF "relations" (.ref d1) [])))))) x d1 d2 d3 d4 := by
      have f2 : (upd H d1 (.dK [])) d2 = none := by rw [← upd_ne (H := upd H d1 (.dK [])) (a := x) (o := .ins C dx (putF "relations" (.ref d1) [])) x2.symm]; exact h2
      have n12 : d1 ≠ d2 := ne_of_none upd_same f2
      have f2' : H d2 = none := by rw [← upd_ne (H := H) (a := d1) (o := .dK []) n12.symm]; exact f2
      have f3a := h3
      rw [upd_ne x3.symm] at f3a
      have n23 : d2 ≠ d3 := ne_of_none upd_same f3a
      have f3b : (upd H d1 (.dK [])) d3 = none := by
        rw [upd_ne n23.symm, upd_ne x3.symm] at f3a
        exact f3a
      have n13 : d1 ≠ d3 := ne_of_none upd_same f3b
      have f3' : H d3 = none := by rw [upd_ne n13.symm] at f3b; exact f3b
      rw [upd_ne x4.symm] at h4
      have n34 : d3 ≠ d4 := ne_of_none upd_same h4
      rw [upd_ne n34.symm, upd_ne x4.symm] at h4
      have n24 : d2 ≠ d4 := ne_of_none upd_same h4
      rw [upd_ne n24.symm, upd_ne x4.symm] at h4
      have n14 : d1 ≠ d4 := ne_of_none upd_same h4
      rw [upd_ne n14.symm] at h4
      refine ⟨⟨dx, upd_same⟩, ?_, ?_, ?_, ?_, h1, f2', f3', h4, ⟨n12, n13, n14, n23, n24, n34⟩, ?_⟩
      · rw [upd_ne x1.symm, upd_ne n14, upd_ne x1.symm, upd_ne n13, upd_ne x1.symm, upd_ne n12, upd_ne x1.symm, upd_same]
      · rw [upd_ne x2.symm, upd_ne n24, upd_ne x2.symm, upd_ne n23, upd_ne x2.symm, upd_same]
      · rw [upd_ne x3.symm, upd_ne n34, upd_ne x3.symm, upd_same]
      · rw [upd_ne x4.symm, upd_same]
      · intro b o hb e
        rw [upd_ne hb, upd_ne (ne_of_none e h4), upd_ne hb, upd_ne (ne_of_none e f3'), upd_ne hb, upd_ne (ne_of_none e f2'), upd_ne hb, upd_ne (ne_of_none e h1)]
        exact e
    generalize (upd (upd (upd (upd (upd (upd (upd (upd H d1 (.dK [])) x (.ins C dx (putF "relations" (.ref d1) []))) d2 (.dK [])) x (.ins C dx (putF "facts" (.ref d2) (putF "relations" (.ref d1) [])))) d3 (.dK [])) x
        (.ins C dx (putF "structures" (.ref d3) (putF "facts" (.ref d2) (putF "relations" (.ref d1) []))))) d4 (.dK [])) x (.ins C dx (putF "layouts" (.ref d4) (putF "structures" (.ref d3) (putF "facts" (.ref d2) (putF "relations" (.ref d1) [])))))) = H1 at nw
    have st0 := nw.st (K := K) hx
    have sl1 := Tk.gwi hx nw.gw _ _ ha
    refine ⟨_, rfl, a, rfl, ⟨_, sl1⟩, for_tup (K := K) (a := a) (xs := []) (fun i σ H4 => H4 = H1) rfl (fun i σ H4 _ hP => ?_) (fun i y σ H4 hy hP => ?_) (fun σ H4 hP => ?_)⟩
    · rw [hP]; exact sl1
    · cases hy
    · rw [hP]
      exact q _ _ _ _ _ (st0.up (by decide)) nw.gw
end
end K1
namespace K1
open PySem PySem.Spec PyProof.Rows L2 Ow Tlz
/-! names in their order -/
theorem rising_pw : ∀ (r : List Str) (p : Str), risingS p r = true → (∀ x ∈ r, ¬ x.cps.toList < p.cps.toList) ∧ r.Pairwise fun a b => ¬ b.cps.toList < a.cps.toList
  | [], p, _ => ⟨(fun _ m => nomatch m), .nil⟩
  | x :: r, p, h => by
    rw [risingS, Bool.and_eq_true, ltCps_eq] at h
    have h1 : ¬ x.cps.toList < p.cps.toList := fun z => by
      rw [decide_eq_true z] at h
      exact absurd h.1 (by decide)
    obtain ⟨a, b⟩ := rising_pw r x h.2
    refine ⟨fun y m => ?_, List.pairwise_cons.mpr ⟨fun y m => a y m, b⟩⟩
    rcases List.mem_cons.mp m with rfl | m
    · exact h1
    · intro z
      have z1 := a y m
      have z2 := List.le_trans (show p.cps.toList ≤ x.cps.toList from h1) (show x.cps.toList ≤ y.cps.toList from z1)
      exact z2 z
theorem sortedS_pw : ∀ {xs : List Str}, sortedS xs = true → xs.Pairwise fun a b => ¬ b.cps.toList < a.cps.toList
  | [], _ => .nil
  | x :: r, h => List.pairwise_cons.mpr (rising_pw r x h)
theorem sortedS_one {xs ys : List Str} (hx : sortedS xs = true) (hy : sortedS ys = true) (p : xs.Perm ys) : xs = ys :=
  List.Perm.eq_of_pairwise (le := fun a b => ¬ b.cps.toList < a.cps.toList) (fun a b _ _ h1 h2 => by
    rcases str_tot a b with h | h | h
    · exact absurd h h2
    · exact h
    · exact absurd h h1) (sortedS_pw hx) (sortedS_pw hy) p
/-! places -/
def roomOf (R : Tb) (n : Str) : Int := match valG R n with
  | some (_, [_, .int r]) => r
  | _ => 0
def sizeOf2 (S : Tb) (n : Str) : Int := match valG S n with
  | some (_, [_, _, .int b, .int s]) => b * s
  | _ => 0
def RelC (R : Tb) : Prop := ∀ e ∈ R, ∃ c r, e.2.2 = [c, .int r]
def StrC (S : Tb) : Prop := ∀ e ∈ S, ∃ u v b s, e.2.2 = [u, v, .int b, .int s] ∧ 0 ≤ b ∧ b ≤ 1000
def plStep (w : Str) (rm : Str → Int) (a : List (List Key × V) × Int) (n : Str) : List (List Key × V) × Int := (putK a.1 [Sum.inr w, Sum.inr n] (.int a.2), a.2 + rm n)
def pl1 (rm : Str → Int) (ys : List Str) : List (List Key × V) × Int := ys.foldl (plStep "relation" rm) ([], 0)
def pl2 (rm sm : Str → Int) (ys zs : List Str) : List (List Key × V) × Int := zs.foldl (plStep "structure" sm) (pl1 rm ys)
theorem pl_len (w : Str) (rm : Str → Int) : ∀ (ys : List Str) (a : List (List Key × V) × Int), (ys.foldl (plStep w rm) a).1.length ≤ a.1.length + ys.length
  | [], a => Nat.le_refl _
  | y :: ys, a => by
    rw [List.foldl_cons, List.length_cons]
    have h1 := pl_len w rm ys (plStep w rm a y)
    have h2 : (plStep w rm a y).1.length ≤ a.1.length + 1 := length_putK _ _ _
    omega
theorem pl_sum (w : Str) (rm : Str → Int) : ∀ (ys : List Str) (a : List (List Key × V) × Int), (ys.foldl (plStep w rm) a).2 = a.2 + (ys.map rm).sum
  | [], a => by simp
  | y :: ys, a => by
    rw [List.foldl_cons, pl_sum w rm ys, List.map_cons, List.sum_cons]
    show a.2 + rm y + _ = _
    omega
theorem kvR_val (R : Tb) (n : Str) : valV (kvR R) (Sum.inr n) = (valG R n).map fun b => V.ref b.1 := kvG_val _ _ _
theorem kvR_keys (R : Tb) : (kvR R).map (·.1) = (R.map (·.1)).map Sum.inr := by
  unfold kvR kvG
  rw [List.map_map, List.map_map]
  rfl
theorem mem_val {R : Tb} {n : Str} (h : n ∈ R.map (·.1)) : ∃ q c, valG R n = some (q, c) ∧ (n, q, c) ∈ R := by
  cases e : valG R n with
  | none =>
    obtain ⟨x, mx, ex⟩ := List.mem_map.mp h
    exact absurd ex (valG_none e x mx)
  | some b => exact ⟨b.1, b.2, rfl, valG_mem e⟩
def spPlaces (K : PySem.W.Frag) (C : Addr) : Sp := fun vs H Q _ => ∃ (x dr df ds dl : Addr) (Z : Addr → Prop) (R S : Tb) (F : Fb) (L : List (Str × V)) (b : Nat), vs = [.ref x] ∧ StAt K C Z H x dr df ds dl R F S L b ∧ RelC R ∧ StrC S ∧ R.length < 64 ∧ S.length < 64 ∧
  ∀ (ys zs : List Str) (p : Addr) H', ys.Perm (R.map (·.1)) → sortedS ys = true → zs.Perm (S.map (·.1)) → sortedS zs = true → Same H H' → H p = none → H' p = some (.dT (pl2 (roomOf R) (sizeOf2 S) ys zs).1) → Q (.ref p) H'
theorem ix_tup_K {X : Cx} {K : PySem.W.Frag} (e : X.K = K) : IxR X (rIxT K) := by
  subst e
  exact ix_tup
theorem pe_fld_K {X : Cx} {K : PySem.W.Frag} (e : X.K = K) {o : Expr} {ta : TE} {f : Str} {pos : Pos} (ha : PE X o ta) (hb : attributeBase o f X.env (eval o X.env) = eval o X.env) : PE X (.Attribute o f pos) (tFld K ta f) := by
  subst e
  exact pe_fld ha hb
def spNeeded (K : PySem.W.Frag) (C : Addr) : Sp := fun vs H Q _ => ∃ (x dr df ds dl : Addr) (Z : Addr → Prop) (R S : Tb) (F : Fb) (L : List (Str × V)) (b : Nat), vs = [.ref x] ∧ StAt K C Z H x dr df ds dl R F S L b ∧ RelC R ∧ StrC S ∧ R.length < 64 ∧ S.length < 64 ∧
  ∀ H', Same H H' → Q (.int (((R.map (·.1)).map (roomOf R)).sum + ((S.map (·.1)).map (sizeOf2 S)).sum)) H'
theorem Same.lock {d : Addr} {od : Obj} {u : HO} {H H' : Hp} (hd : H d = some u) (s : Same (upd H d (.frz od u)) H') : Same H (upd H' d u) := fun b o e => by
  by_cases w : b = d
  · subst w
    rw [upd_same, ← hd, e]
  · rw [upd_ne w]
    exact s b o (by rw [upd_ne w]; exact e)
theorem kvR_at {R : Tb} {i : Nat} {k : Key} {v : V} (h : (kvR R)[i]? = some (k, v)) : ∃ e, R[i]? = some e ∧ k = Sum.inr e.1 ∧ v = .ref e.2.1 := by
  unfold kvR kvG at h
  rw [List.getElem?_map] at h
  cases z : R[i]? with
  | none => rw [z] at h; cases h
  | some e =>
    rw [z] at h
    have := Option.some.inj h
    exact ⟨e, rfl, (congrArg Prod.fst this).symm, (congrArg Prod.snd this).symm⟩
theorem dget_n {H : Hp} {d : Addr} {R : Tb} {n : Str} {q : Addr} {c : List V} (h : Rd H d (.dK (kvR R))) (e : valG R n = some (q, c)) : DGet H d (.str n) (some (.ref q)) := by
  refine .inl ⟨kvR R, Sum.inr n, h, rfl, ?_⟩
  rw [kvR_val, e]
  rfl
theorem room_eq {R : Tb} {n : Str} {q : Addr} {c : V} {r : Int} (e : valG R n = some (q, [c, .int r])) : roomOf R n = r := by
  unfold roomOf
  rw [e]
theorem size_eq {S : Tb} {n : Str} {q : Addr} {u v : V} {b s : Int} (e : valG S n = some (q, [u, v, .int b, .int s])) : sizeOf2 S n = b * s := by
  unfold sizeOf2
  rw [e]

def wd (b : Bool) : Str := if b = true then "relation" else "structure"
def rmB (R S : Tb) (e : Bool × Str) : Int := if e.1 = true then roomOf R e.2 else sizeOf2 S e.2
def nmE (ys zs : List Str) : List (Bool × Str) := ys.map (fun n => (true, n)) ++ zs.map (fun n => (false, n))
def plE (R S : Tb) (es : List (Bool × Str)) : List (List Key × V) × Int := es.foldl (fun a e => plStep (wd e.1) (fun _ => rmB R S e) a e.2) ([], 0)
theorem plE_eq (R S : Tb) (ys zs : List Str) : plE R S (nmE ys zs) = pl2 (roomOf R) (sizeOf2 S) ys zs := by
  unfold plE nmE pl2 pl1
  rw [List.foldl_append, List.foldl_map, List.foldl_map]
  rfl
theorem plE_len (R S : Tb) (es : List (Bool × Str)) : (plE R S es).1.length ≤ es.length := by
  have h : ∀ (es : List (Bool × Str)) (a : List (List Key × V) × Int), (es.foldl (fun a e => plStep (wd e.1) (fun _ => rmB R S e) a e.2) a).1.length ≤ a.1.length + es.length := by
    intro es
    induction es with
    | nil => intro a; exact Nat.le_refl _
    | cons e es ih =>
      intro a
      rw [List.foldl_cons, List.length_cons]
      have h1 := ih (plStep (wd e.1) (fun _ => rmB R S e) a e.2)
      have h2 : (plStep (wd e.1) (fun _ => rmB R S e) a e.2).1.length ≤ a.1.length + 1 := length_putK _ _ _
      omega
  exact Nat.le_trans (h es ([], 0)) (by rw [List.length_nil]; omega)
theorem sum_perm {xs ys : List Int} (p : xs.Perm ys) : xs.sum = ys.sum := by
  induction p with
  | nil => rfl
  | cons x _ ih => rw [List.sum_cons, List.sum_cons, ih]
  | swap x y l => rw [List.sum_cons, List.sum_cons, List.sum_cons, List.sum_cons]; omega
  | trans _ _ h1 h2 => exact h1.trans h2
theorem nmE_sum {R S : Tb} {ys zs : List Str} (py : ys.Perm (R.map (·.1))) (pz : zs.Perm (S.map (·.1))) :
    ((nmE ys zs).map (rmB R S)).sum = ((R.map (·.1)).map (roomOf R)).sum + ((S.map (·.1)).map (sizeOf2 S)).sum := by
  unfold nmE
  rw [List.map_append, List.sum_append, List.map_map, List.map_map, ← sum_perm (py.map (roomOf R)), ← sum_perm (pz.map (sizeOf2 S))]
  rfl
theorem nmE_mem {R S : Tb} {ys zs : List Str} {e : Bool × Str} (py : ys.Perm (R.map (·.1))) (pz : zs.Perm (S.map (·.1))) (m : e ∈ nmE ys zs) :
    (e.1 = true → e.2 ∈ R.map (·.1)) ∧ (e.1 = false → e.2 ∈ S.map (·.1)) := by
  unfold nmE at m
  rcases List.mem_append.mp m with m | m
  · obtain ⟨n, mn, rfl⟩ := List.mem_map.mp m
    exact ⟨fun _ => py.mem_iff.mp mn, fun z => by cases z⟩
  · obtain ⟨n, mn, rfl⟩ := List.mem_map.mp m
    exact ⟨fun z => (by cases z), fun _ => pz.mem_iff.mp mn⟩
theorem nmE_len {R S : Tb} {ys zs : List Str} (py : ys.Perm (R.map (·.1))) (pz : zs.Perm (S.map (·.1))) : (nmE ys zs).length = R.length + S.length := by
  unfold nmE
  rw [List.length_append, List.length_map, List.length_map, py.length_eq, pz.length_eq, List.length_map, List.length_map]
def NmE (H : Hp) (ts : List Addr) (es : List (Bool × Str)) : Prop := ts.length = es.length ∧ ∀ (i : Nat) (t : Addr) (e : Bool × Str), ts[i]? = some t → es[i]? = some e → H t = some (.tup [.str (wd e.1), .str e.2])
theorem NmE.same {H H' : Hp} {ts : List Addr} {es : List (Bool × Str)} (h : NmE H ts es) (s : Same H H') : NmE H' ts es := ⟨h.1, fun i t e a b => s _ _ (h.2 i t e a b)⟩
theorem NmE.app {H : Hp} {ts us : List Addr} {es fs : List (Bool × Str)} (h : NmE H ts es) (g : NmE H us fs) : NmE H (ts ++ us) (es ++ fs) := by
  refine ⟨by rw [List.length_append, List.length_append, h.1, g.1], fun i t e a b => ?_⟩
  rcases Nat.lt_or_ge i ts.length with z | z
  · rw [List.getElem?_append_left z] at a
    rw [List.getElem?_append_left (by rw [← h.1]; exact z)] at b
    exact h.2 i t e a b
  · rw [List.getElem?_append_right z] at a
    rw [List.getElem?_append_right (by rw [← h.1]; exact z), ← h.1] at b
    exact g.2 _ t e a b
def spRoomOf (K : PySem.W.Frag) (C : Addr) : Sp := fun vs H Q _ => ∃ (x dr df ds dl : Addr) (Z : Addr → Prop) (R S : Tb) (F : Fb) (L : List (Str × V)) (b : Nat) (t : Addr) (e : Bool × Str), vs = [.ref x, .ref t] ∧ StAt K C Z H x dr df ds dl R F S L b ∧ RelC R ∧ StrC S ∧
  SqT K H t [.str (wd e.1), .str e.2] ∧ ((e.1 = true → e.2 ∈ R.map (·.1)) ∧ (e.1 = false → e.2 ∈ S.map (·.1))) ∧ Q (.int (rmB R S e)) H
def spNames (K : PySem.W.Frag) (C : Addr) : Sp := fun vs H Q _ => ∃ (x dr df ds dl : Addr) (Z : Addr → Prop) (R S : Tb) (F : Fb) (L : List (Str × V)) (b : Nat), vs = [.ref x] ∧ StAt K C Z H x dr df ds dl R F S L b ∧ R.length < 64 ∧ S.length < 64 ∧
  ∀ (ys zs : List Str) (ts : List Addr) (p : Addr) H', ys.Perm (R.map (·.1)) → sortedS ys = true → zs.Perm (S.map (·.1)) → sortedS zs = true → Same H H' → H p = none → H' p = some (.lst (ts.map V.ref)) → NmE H' ts (nmE ys zs) → Q (.ref p) H'
abbrev sroom_of : Stmt := topS 10
abbrev Nroom_of : List Str := ["state", "name", "sort", "told"]
theorem scroom_of : FnScope Nroom_of ["state", "name"] (defScope sroom_of) := ⟨rfl, rfl, rfl, by decide +kernel, rfl, by decide +kernel, by decide +kernel⟩
abbrev sall_names : Stmt := topS 11
abbrev Nall_names : List Str := ["state", "relations", "name"]
theorem scall_names : FnScope Nall_names ["state"] (defScope sall_names) := ⟨rfl, rfl, rfl, by decide +kernel, rfl, by decide +kernel, by decide +kernel⟩
abbrev splaces : Stmt := topS 12
abbrev Nplaces : List Str := ["state", "told", "free", "name"]
theorem scplaces : FnScope Nplaces ["state"] (defScope splaces) := ⟨rfl, rfl, rfl, by decide +kernel, rfl, by decide +kernel, by decide +kernel⟩
abbrev sroom_needed : Stmt := topS 13
abbrev Nroom_needed : List Str := ["state", "name"]
theorem scroom_needed : FnScope Nroom_needed ["state"] (defScope sroom_needed) := ⟨rfl, rfl, rfl, by decide +kernel, rfl, by decide +kernel, by decide +kernel⟩
/-- every turn gives a new tuple, of the row i -/
theorem lc_tup {J : L2.It} {n : Nat} {G : Hp → Prop} {Y : Nat → Hp → V → Hp → Prop} (w : Walk J n G Y) (row : Nat → List V) (hn : n < sizeLine) {g : TG} {te : TE} {vs : List Nat} {σ : L2.St} {H1 : Hp} {D : Addr} {Qd : Hp → Prop} (hD : H1 D = none)
    (hG : ∀ H, Same H1 H → G H)
    (hs : ∀ i x H H' (N : VK), i < n → Same H1 H → Y i H x H' → (∀ H4 q, Same H H4 → H q = none → H4 q = some (.tup (row i)) → N (.ref q) H4) → g x (wipe σ vs) H' fun σ2 H2 => wipe σ2 vs = wipe σ vs ∧ te σ2 H2 N)
    (hd : ∀ (H : Hp) (ts : List Addr), Same H1 H → H D = some (.lst (ts.map V.ref)) → ts.length = n → (∀ i t, ts[i]? = some t → H t = some (.tup (row i))) → Qd H) :
    ∃ W : Nat → Nat → Hp → Prop, (∃ m, W 0 m (upd H1 D (.lst []))) ∧ ∀ i m H, W i m H →
      (J.stop i H ∧ Qd H) ∨ (J.go i H ∧ ∃ Nx : Hp → Prop, (∀ H', Nx H' → ∃ m', m' < m ∧ W (i + 1) m' H') ∧ ∀ x H', J.yld i H x H' → g x (wipe σ vs) H' fun σ2 H2 => wipe σ2 vs = wipe σ vs ∧ tYes σ2 H2 fun b H3 =>
        if b = true then te σ2 H3 fun y H4 => ∃ acc, H4 D = some (.lst acc) ∧ acc.length < sizeLine ∧ Nx (upd H4 D (.lst (acc ++ [y]))) else Nx H3) := by
  refine lc_it w (fun i H => Same H1 H ∧ ∃ ts : List Addr, H D = some (.lst (ts.map V.ref)) ∧ ts.length = i ∧ ∀ j t, ts[j]? = some t → t ≠ D ∧ H t = some (.tup (row j))) ⟨Same.new hD, [], upd_same, rfl, fun j t e => by simp at e⟩ (fun i H _ h => hG H h.1) (fun i x H H' hi h y => ?_) fun H h => ?_
  · obtain ⟨s, ts, eD, el, et⟩ := h
    refine hs i x H H' _ hi s y fun H4 q s4 nq eq => ?_
    have qD : q ≠ D := fun z => by rw [z, eD] at nq; cases nq
    refine ⟨_, s4 _ _ eD, by rw [List.length_map, el]; exact Nat.lt_trans hi hn, Same.over (s.trans s4) hD, ts ++ [q], ?_, by rw [List.length_append, el]; rfl, fun j t ej => ?_⟩
    · rw [upd_same, List.map_append]
      rfl
    · rcases Nat.lt_trichotomy j ts.length with h1 | h1 | h1
      · rw [List.getElem?_append_left h1] at ej
        obtain ⟨f2, f3⟩ := et j t ej
        exact ⟨f2, by rw [upd_ne f2]; exact s4 _ _ f3⟩
      · subst h1
        have e2 : q = t := by simpa using ej
        subst e2
        exact ⟨qD, by rw [upd_ne qD, el]; exact eq⟩
      · rw [List.getElem?_eq_none (by rw [List.length_append, List.length_singleton]; omega)] at ej
        cases ej
  · obtain ⟨s, ts, eD, el, et⟩ := h
    exact hd H ts s eD el fun i t e => (et i t e).2
/-- a comprehension whose turns leave what was: of the turns i with p i the value ys i -/
theorem lc_fl {J : L2.It} {n : Nat} {G : Hp → Prop} {Y : Nat → Hp → V → Hp → Prop} (w : Walk J n G Y) (p : Nat → Bool) (ys : Nat → V) (hn : n < sizeLine) {g : TG} {tt : TT} {te : TE} {vs : List Nat} {σ : L2.St} {H1 : Hp} {D : Addr} {Qd : Hp → Prop} (hD : H1 D = none)
    (hG : ∀ H, Same H1 H → G H)
    (hs : ∀ i x H H' (N : VK) (M : Hp → Prop), i < n → Same H1 H → Y i H x H' → (p i = true → ∀ H4, Same H H4 → N (ys i) H4) → (p i = false → ∀ H4, Same H H4 → M H4) →
      g x (wipe σ vs) H' fun σ2 H2 => wipe σ2 vs = wipe σ vs ∧ tt σ2 H2 fun b H3 => if b = true then te σ2 H3 N else M H3)
    (hd : ∀ H, Same H1 H → H D = some (.lst (((List.range n).filter p).map ys)) → Qd H) :
    ∃ W : Nat → Nat → Hp → Prop, (∃ m, W 0 m (upd H1 D (.lst []))) ∧ ∀ i m H, W i m H →
      (J.stop i H ∧ Qd H) ∨ (J.go i H ∧ ∃ Nx : Hp → Prop, (∀ H', Nx H' → ∃ m', m' < m ∧ W (i + 1) m' H') ∧ ∀ x H', J.yld i H x H' → g x (wipe σ vs) H' fun σ2 H2 => wipe σ2 vs = wipe σ vs ∧ tt σ2 H2 fun b H3 =>
        if b = true then te σ2 H3 fun y H4 => ∃ acc, H4 D = some (.lst acc) ∧ acc.length < sizeLine ∧ Nx (upd H4 D (.lst (acc ++ [y]))) else Nx H3) := by
  have pre : ∀ i, (((List.range i).filter p).map ys).length ≤ i := fun i => by
    rw [List.length_map]
    exact Nat.le_trans (List.length_filter_le _ _) (by rw [List.length_range]; exact Nat.le_refl _)
  refine lc_it w (fun i H => Same H1 H ∧ H D = some (.lst (((List.range i).filter p).map ys))) ⟨Same.new hD, upd_same⟩ (fun i H _ h => hG H h.1) (fun i x H H' hi h y => ?_) fun H h => hd H h.1 h.2
  have st : ((List.range (i + 1)).filter p).map ys = ((List.range i).filter p).map ys ++ (if p i = true then [ys i] else []) := by
    rw [List.range_succ, List.filter_append, List.map_append]
    cases e : p i <;> simp [List.filter, e]
  refine hs i x H H' _ _ hi h.1 y (fun e H4 s4 => ?_) fun e H4 s4 => ?_
  · refine ⟨_, s4 _ _ h.2, Nat.lt_of_le_of_lt (pre i) (Nat.lt_trans hi hn), Same.over (h.1.trans s4) hD, ?_⟩
    rw [upd_same, st, if_pos e]
  · refine ⟨h.1.trans s4, ?_⟩
    rw [s4 _ _ h.2, st, e, if_neg (by decide), List.append_nil]
theorem filter_all {α : Type} (xs : List α) : xs.filter (fun _ => true) = xs := by
  induction xs with
  | nil => rfl
  | cons x r ih => simp [List.filter, ih]
theorem call_sum_K {X : Cx} {K : PySem.W.Frag} (e : X.K = K) (hc : X.calm = true) : CallR X (.builtin "sum") (rSum K) := by
  subst e
  exact cr_sum hc
section
variable {P : Program} {w : World} {K : PySem.W.Frag} {mg : Str → Option Value} {base : Heap} {C : Addr}
theorem ok_roomof {f : Addr} {fd : FuncData} (F0 : Fun K "room_of" "room_of" sroom_of f fd) (T : Bl mg) (X : Txt K mg C) :
    FnOk P w K mg base CX0 1 f fd ["state", "name"] (spRoomOf K C) := by
  refine F0.ok scroom_of (fun vs H Q E h => ?_) (fun cdv A outer s H vs Q E hr h => ?_)
  · obtain ⟨x, dr, df, ds, dl, Z, R, S, F, L, b, t, e, rfl, _⟩ := h
    rfl
  · obtain ⟨x, dr, df, ds, dl, Z, R, S, F, L, b, t, e, rfl, st, rc, sc, ht, mm, q⟩ := h
    have hu := hu_of hr
    refine ⟨_, (pss_cons (ps_asg (pv 1) (pg_tup rfl (pgs_cons (pg_name (i := 2) scroom_of.nd rfl (.inl rfl)) (pgs_cons (pg_name (i := 3) scroom_of.nd rfl (.inl rfl)) pgs_nil))))
      (pss_cons (ps_if (pt_cmpR op_eq (pv 2) pe_str (nomark _)) (pss_one (ps_ret (pe_ix ix_tup (pe_dget hu (pe_fld (pv 0) rfl) (pv 3) (fun _ _ => rfl)) pe_int (fun _ _ => rfl)))) pss_nil)
      (pss_one (ps_ret (pe_op op_mul (pe_ix ix_tup (pe_dget hu (pe_fld (pv 0) rfl) (pv 3) (fun _ _ => rfl)) pe_int (fun _ _ => rfl)) (pe_ix ix_tup (pe_dget hu (pe_fld (pv 0) rfl) (pv 3) (fun _ _ => rfl)) pe_int (fun _ _ => rfl))))))), ?_⟩
    obtain ⟨dx, ob⟩ := st.ob
    obtain ⟨eb, n⟩ := e
    refine ⟨_, rfl, t, _, rfl, ht, rfl, _, _, rfl, _, _, rfl, rfl, ?_⟩
    cases eb with
    | true =>
      obtain ⟨qa, c, ec, m⟩ := mem_val (mm.1 rfl)
      obtain ⟨cc, r, er⟩ := rc _ m
      have er' : c = [cc, .int r] := er
      subst er'
      refine ⟨_, rfl, rfl, _, rfl, ite2 (fun _ => ?_) (fun e => absurd (decide_eq_true rfl) e)⟩
      refine ⟨_, rfl, x, C, dx, _, _, rfl, ob, X.cl, X.nR, flds_r _ _ _ _, _, rfl, dr, _, rfl, dget_n (.inl st.r) ec, qa, _, 1, .int r, rfl, rfl, st.rt _ m, at_of (j := 1) rfl rfl, ?_⟩
      have e2 : rmB R S (true, n) = r := room_eq ec
      rw [e2] at q
      exact q
    | false =>
      obtain ⟨qa, c, ec, m⟩ := mem_val (mm.2 rfl)
      obtain ⟨u, v, b', s', er, b0, b1⟩ := sc _ m
      have er' : c = [u, v, .int b', .int s'] := er
      subst er'
      have ht2 : SqT K H qa [u, v, .int b', .int s'] := st.st _ m
      have n1 : ¬ decide (V.str (wd false) = V.str "relation") = true := fun h => absurd (V.str.inj (of_decide_eq_true h)) (by decide)
      refine ⟨_, rfl, rfl, _, rfl, ite2 (fun e => absurd e n1) (fun _ => ?_)⟩
      refine ⟨_, rfl, x, C, dx, _, _, rfl, ob, X.cl, X.nS, flds_s _ _ _ _, _, rfl, ds, _, rfl, dget_n (.inl st.s) ec, qa, _, 2, .int b', rfl, rfl, ht2, at_of (j := 2) rfl rfl, ?_⟩
      refine ⟨_, rfl, x, C, dx, _, _, rfl, ob, X.cl, X.nS, flds_s _ _ _ _, _, rfl, ds, _, rfl, dget_n (.inl st.s) ec, qa, _, 3, .int s', rfl, rfl, ht2, at_of (j := 3) rfl rfl, b', s', rfl, rfl, .inl ⟨by omega, by omega⟩, ?_⟩
      have e2 : rmB R S (false, n) = b' * s' := size_eq ec
      rw [e2] at q
      exact q
theorem ok_names {f : Addr} {fd : FuncData} (F0 : Fun K "all_names" "all_names" sall_names f fd) (T : Bl mg) (X : Txt K mg C) :
    FnOk P w K mg base CX0 1 f fd ["state"] (spNames K C) := by
  refine F0.ok scall_names (fun vs H Q E h => ?_) (fun cdv A outer s H vs Q E hr h => ?_)
  · obtain ⟨x, dr, df, ds, dl, Z, R, S, F, L, b, rfl, _⟩ := h
    rfl
  · obtain ⟨x, dr, df, ds, dl, Z, R, S, F, L, b, rfl, st, lR, lS, q⟩ := h
    have hu := hu_of hr
    refine ⟨_, (pss_cons (ps_setLc (i := 1) (own := [("name", 2)]) (g := gName 2) (tt := tYes) rfl scall_names.nd rfl rfl (sw_true rfl rfl rfl (by decide +kernel)) (pi_list (pe_callB (call_sortedD rfl) (by rfl) T.sorted (by decide +kernel) (pa_cons (pe_fld (pv 0) rfl) pa_nil))) (blkOk_by (own := [("name", 2)]) (N := Nall_names) (sc := defScope sall_names) (by decide +kernel)) (fun _ _ _ _ _ => pg_name (i := 2) scall_names.nd rfl (Or.inl rfl)) (fun _ _ _ _ _ => pts_nil) (fun _ _ _ _ _ => (pe_tup (pa_cons pe_str (pa_cons (pv 2) pa_nil)))))
      (pss_one (ps_ret (pe_op op_cat (pv 1) (pe_lc (own := [("name", 2)]) (g := gName 2) (tt := tYes) rfl scall_names.nd (pi_list (pe_callB (call_sortedD rfl) (by rfl) T.sorted (by decide +kernel) (pa_cons (pe_fld (pv 0) rfl) pa_nil))) (blkOk_by (own := [("name", 2)]) (N := Nall_names) (sc := defScope sall_names) (by decide +kernel)) (fun _ _ _ _ _ => pg_name (i := 2) scall_names.nd rfl (Or.inl rfl)) (fun _ _ _ _ _ => pts_nil) (fun _ _ _ _ _ => (pe_tup (pa_cons pe_str (pa_cons (pv 2) pa_nil))))))))), ?_⟩
    obtain ⟨dx, ob⟩ := st.ob
    refine ⟨_, rfl, x, C, dx, _, _, rfl, ob, X.cl, X.nR, flds_r _ _ _ _, dr, kvR R, R.map (·.1), rfl, .inl st.r, kvR_keys R, by rw [List.length_map]; exact lR, fun ys yp py sy nyp => ?_⟩
    have s1 := Same.new (o := .lst (ys.map V.str)) nyp
    have e1 := upd_same (H := H) (a := yp) (o := .lst (ys.map V.str))
    generalize (upd H yp (.lst (ys.map V.str))) = H1 at *
    have lys : ys.length < 64 := by rw [py.length_eq, List.length_map]; exact lR
    have lys' : (ys.map V.str).length = ys.length := List.length_map _
    refine ⟨yp, rfl, ⟨_, SqL.of e1⟩, fun D nD => lc_tup (walk_list (K := K) (a := yp) (xs := ys.map V.str)) (fun i => [.str (wd true), (ys.map V.str).getD i .non]) (by rw [lys']; exact small (show ys.length ≤ 1000 by omega) (by decide)) nD (fun H s => SqL.of (s _ _ e1)) (fun i v H2 H2' N hi s2 yy fin => ?_) fun H2 as s2 eD la ga => ?_⟩
    · obtain ⟨rfl, ev⟩ := yy
      refine ⟨rfl, _, rfl, sz 2, fun t nt => fin _ t (Same.new nt) nt ?_⟩
      rw [upd_same, List.getD_eq_getElem?_getD, ev]
      rfl
    · have s02 := s1.trans s2
      have nDH : H D = none := s1.free nD
      refine ⟨_, rfl, _, rfl, x, C, dx, _, _, rfl, s02 _ _ ob, X.cl, X.nS, flds_s _ _ _ _, ds, kvR S, S.map (·.1), rfl, .inl (s02 _ _ st.s), kvR_keys S, by rw [List.length_map]; exact lS, fun zs zp pz sz' nzp => ?_⟩
      have s3 := Same.new (o := .lst (zs.map V.str)) nzp
      have e3 := upd_same (H := H2) (a := zp) (o := .lst (zs.map V.str))
      generalize (upd H2 zp (.lst (zs.map V.str))) = H3 at *
      have lzs : zs.length < 64 := by rw [pz.length_eq, List.length_map]; exact lS
      have lzs' : (zs.map V.str).length = zs.length := List.length_map _
      refine ⟨zp, rfl, ⟨_, SqL.of e3⟩, fun D2 nD2 => lc_tup (walk_list (K := K) (a := zp) (xs := zs.map V.str)) (fun i => [.str (wd false), (zs.map V.str).getD i .non]) (by rw [lzs']; exact small (show zs.length ≤ 1000 by omega) (by decide)) nD2 (fun H s => SqL.of (s _ _ e3)) (fun i v H4 H4' N hi s4 yy fin => ?_) fun H4 bs s4 eD2 lb gb => ?_⟩
      · obtain ⟨rfl, ev⟩ := yy
        refine ⟨rfl, _, rfl, sz 2, fun t nt => fin _ t (Same.new nt) nt ?_⟩
        rw [upd_same, List.getD_eq_getElem?_getD, ev]
        rfl
      · have s24 := s3.trans s4
        rw [lys'] at la
        rw [lzs'] at lb
        refine ⟨D, D2, _, _, rfl, rfl, s24 _ _ eD, eD2, ?_, fun p np => ?_⟩
        · rw [List.length_map, List.length_map, la, lb]
          exact Nat.le_of_lt (small (show ys.length + zs.length ≤ 1000 by omega) (by decide))
        · have s5 := Same.new (o := .lst (as.map V.ref ++ bs.map V.ref)) np
          have n1 : NmE H4 as (ys.map (fun n => (true, n))) := ⟨by rw [la, List.length_map], fun i t e a b => by
            rw [List.getElem?_map] at b
            cases en : ys[i]? with
            | none => rw [en] at b; cases b
            | some n =>
              rw [en] at b
              cases b
              rw [s24 _ _ (ga i t a), List.getD_eq_getElem?_getD, List.getElem?_map, en]
              rfl⟩
          have n2 : NmE H4 bs (zs.map (fun n => (false, n))) := ⟨by rw [lb, List.length_map], fun i t e a b => by
            rw [List.getElem?_map] at b
            cases en : zs[i]? with
            | none => rw [en] at b; cases b
            | some n =>
              rw [en] at b
              cases b
              rw [gb i t a, List.getD_eq_getElem?_getD, List.getElem?_map, en]
              rfl⟩
          exact q ys zs (as ++ bs) p _ py sy pz sz' ((s02.trans s24).trans s5) (s02.trans s24 |>.free np) (by rw [upd_same, List.map_append]) ((n1.app n2).same s5)
theorem ok_places {f : Addr} {fd : FuncData} (F0 : Fun K "places" "places" splaces f fd) (T : Bl mg) (X : Txt K mg C)
    (Droom_of : Kn P w K mg base 1 "room_of" ["state", "name"] (spRoomOf K C)) (Dall_names : Kn P w K mg base 1 "all_names" ["state"] (spNames K C)) :
    FnOk P w K mg base CX0 2 f fd ["state"] (spPlaces K C) := by
  refine F0.ok scplaces (fun vs H Q E h => ?_) (fun cdv A outer s H vs Q E hr h => ?_)
  · obtain ⟨x, dr, df, ds, dl, Z, R, S, F, L, b, rfl, _⟩ := h
    rfl
  · obtain ⟨x, dr, df, ds, dl, Z, R, S, F, L, b, rfl, st, rc, sc, lR, lS, q⟩ := h
    have hu := hu_of hr
    refine ⟨_, (pss_cons (ps_set (i := 1) scplaces.nd rfl (.inl rfl) pe_dnewT)
      (pss_cons (ps_set (i := 2) scplaces.nd rfl (.inl rfl) pe_int)
      (pss_cons (ps_for PassesOwn.never rfl (pi_list (pe_kn Dall_names hr (pa_cons (pv 0) pa_nil))) (pg_name (i := 3) scplaces.nd rfl (.inl rfl)) (pss_cons (ps_dput hu (pv 1) (pv 3) (pv 2) rfl)
      (pss_one (ps_aug (i := 2) scplaces.nd rfl (.inl rfl) (pe_kn Droom_of hr (pa_cons (pv 0) (pa_cons (pv 3) pa_nil))) ip_add))))
      (pss_one (ps_ret (pv 1)))))), ?_⟩
    refine fun o no => ?_
    have s1 := Same.new (o := .dT []) no
    have e1 := upd_same (H := H) (a := o) (o := .dT [])
    generalize (upd H o (.dT [])) = H1 at *
    refine ⟨_, rfl, x, dr, df, ds, dl, Z, R, S, F, L, b, rfl, st.same s1, lR, lS, fun ys zs ts yp H2 py sy pz sz' s2 nyp e2 nm => ?_⟩
    have s02 := s1.trans s2
    have nyo : yp ≠ o := fun z => by rw [z, e1] at nyp; cases nyp
    have len := nmE_len py pz
    have eo2 := s2 _ _ e1
    refine ⟨yp, rfl, ⟨_, SqL.of e2⟩, for_list (K := K) (a := yp) (xs := ts.map V.ref) (fun i σ H4 => ∃ y3 : Option V, σ = [some (.ref x), some (.ref o), some (.int (plE R S ((nmE ys zs).take i)).2), y3] ∧
        Same H H4 ∧ H4 o = some (.dT (plE R S ((nmE ys zs).take i)).1) ∧ H4 yp = some (.lst (ts.map V.ref)) ∧ NmE H4 ts (nmE ys zs))
      ⟨none, rfl, s02, eo2, e2, nm⟩ (fun i σ H4 _ hP => ?_) (fun i y σ H4 hy hP => ?_) (fun σ H4 hP => ?_)⟩
    · obtain ⟨_, _, _, _, h, _⟩ := hP
      exact SqL.of h
    · obtain ⟨y3, rfl, s4, eo, ey, nm4⟩ := hP
      rw [List.getElem?_map] at hy
      cases et : ts[i]? with
      | none => rw [et] at hy; cases hy
      | some t =>
        rw [et] at hy
        have ey' : V.ref t = y := Option.some.inj hy
        subst ey'
        have il : i < (nmE ys zs).length := by rw [← nm4.1]; exact (List.getElem?_eq_some_iff.mp et).1
        obtain ⟨e, ee⟩ : ∃ e, (nmE ys zs)[i]? = some e := ⟨_, List.getElem?_eq_getElem il⟩
        have me := nmE_mem py pz (List.mem_of_getElem? ee)
        have tup := nm4.2 i t e et ee
        have ll := plE_len R S ((nmE ys zs).take i)
        have ll2 : ((nmE ys zs).take i).length ≤ 128 := by rw [List.length_take]; omega
        have tk : (nmE ys zs).take (i + 1) = (nmE ys zs).take i ++ [e] := by rw [List.take_add_one, ee]; rfl
        have dp := DPut.t (k := [Sum.inr (wd e.1), Sum.inr e.2]) (v := .int (plE R S ((nmE ys zs).take i)).2) eo tup (small (m := 1000) (by omega) (by decide))
        refine ⟨_, rfl, _, rfl, _, rfl, o, _, rfl, dp, ?_⟩
        have ot : o ≠ t := fun z => by rw [← z, eo] at tup; cases tup
        have nm6 : NmE (upd H4 o (.dT (putK (plE R S ((nmE ys zs).take i)).1 [Sum.inr (wd e.1), Sum.inr e.2] (.int (plE R S ((nmE ys zs).take i)).2)))) ts (nmE ys zs) := ⟨nm4.1, fun j u f a b => by
          have := nm4.2 j u f a b
          rw [upd_ne (fun z => by rw [z, eo] at this; cases this)]
          exact this⟩
        have s6 : Same H (upd H4 o (.dT (putK (plE R S ((nmE ys zs).take i)).1 [Sum.inr (wd e.1), Sum.inr e.2] (.int (plE R S ((nmE ys zs).take i)).2)))) := Same.over s4 no
        have y6 : (upd H4 o (.dT (putK (plE R S ((nmE ys zs).take i)).1 [Sum.inr (wd e.1), Sum.inr e.2] (.int (plE R S ((nmE ys zs).take i)).2)))) yp = some (.lst (ts.map V.ref)) := by
          rw [upd_ne nyo]; exact ey
        have e6 := upd_same (H := H4) (a := o) (o := .dT (putK (plE R S ((nmE ys zs).take i)).1 [Sum.inr (wd e.1), Sum.inr e.2] (.int (plE R S ((nmE ys zs).take i)).2)))
        generalize (upd H4 o (.dT (putK (plE R S ((nmE ys zs).take i)).1 [Sum.inr (wd e.1), Sum.inr e.2] (.int (plE R S ((nmE ys zs).take i)).2)))) = H6 at *
        have st6 := st.same s6
        refine ⟨_, rfl, _, rfl, _, rfl, x, dr, df, ds, dl, Z, R, S, F, L, b, t, e, rfl, st6, rc, sc, SqT.of (nm6.2 i t e et ee), me, _, _, rfl, rfl, ?_⟩
        have ef : plE R S ((nmE ys zs).take (i + 1)) = plStep (wd e.1) (fun _ => rmB R S e) (plE R S ((nmE ys zs).take i)) e.2 := by
          unfold plE
          rw [tk, List.foldl_append]
          rfl
        refine ⟨some (.ref t), ?_, s6, ?_, y6, nm6⟩
        · rw [ef]
          rfl
        · rw [ef]
          exact e6
    · obtain ⟨y3, rfl, s4, eo, ey, nm4⟩ := hP
      rw [List.length_map, nm.1, List.take_length, plE_eq] at eo
      exact ⟨_, rfl, q ys zs o _ py sy pz sz' s4 no eo⟩
theorem ok_needed {f : Addr} {fd : FuncData} (F0 : Fun K "room_needed" "room_needed" sroom_needed f fd) (T : Bl mg) (X : Txt K mg C)
    (Droom_of : Kn P w K mg base 1 "room_of" ["state", "name"] (spRoomOf K C)) (Dall_names : Kn P w K mg base 1 "all_names" ["state"] (spNames K C)) :
    FnOk P w K mg base CX0 2 f fd ["state"] (spNeeded K C) := by
  refine F0.ok scroom_needed (fun vs H Q E h => ?_) (fun cdv A outer s H vs Q E hr h => ?_)
  · obtain ⟨x, dr, df, ds, dl, Z, R, S, F, L, b, rfl, _⟩ := h
    rfl
  · obtain ⟨x, dr, df, ds, dl, Z, R, S, F, L, b, rfl, st, rc, sc, lR, lS, q⟩ := h
    have hu := hu_of hr
    refine ⟨_, (pss_one (ps_ret (pe_callB (call_sum_K rfl rfl) (by rfl) T.sum (by decide +kernel) (pa_cons (pe_lc (own := [("name", 1)]) (g := gName 1) (tt := tYes) rfl scroom_needed.nd (pi_list (pe_kn Dall_names hr (pa_cons (pv 0) pa_nil))) (blkOk_by (own := [("name", 1)]) (N := Nroom_needed) (sc := defScope sroom_needed) (by decide +kernel)) (fun _ _ _ _ _ => pg_name (i := 1) scroom_needed.nd rfl (Or.inl rfl)) (fun _ _ _ _ _ => pts_nil) (fun _ _ _ _ _ => (pe_kn Droom_of hr (pa_cons (pv 0) (pa_cons (pv 1) pa_nil))))) pa_nil)))), ?_⟩
    refine ⟨_, rfl, x, dr, df, ds, dl, Z, R, S, F, L, b, rfl, st, lR, lS, fun ys zs ts yp H2 py sy pz sz' s2 nyp e2 nm => ?_⟩
    have len := nmE_len py pz
    have lts : (ts.map V.ref).length = ts.length := List.length_map _
    refine ⟨yp, rfl, ⟨_, SqL.of e2⟩, fun D nD => lc_fl (walk_list (K := K) (a := yp) (xs := ts.map V.ref)) (fun _ => true) (fun i => V.int (((nmE ys zs).map (rmB R S)).getD i 0)) (by rw [lts, nm.1, len]; exact small (show R.length + S.length ≤ 1000 by omega) (by decide)) nD (fun H s => SqL.of (s _ _ e2)) (fun i v H4 H4' N M hi s4 yy fin _ => ?_) fun H4 s4 eD => ?_⟩
    · obtain ⟨rfl, ev⟩ := yy
      rw [List.getElem?_map] at ev
      cases et : ts[i]? with
      | none => rw [et] at ev; cases ev
      | some t =>
        rw [et] at ev
        cases ev
        have il : i < (nmE ys zs).length := by rw [← nm.1]; exact (List.getElem?_eq_some_iff.mp et).1
        obtain ⟨e, ee⟩ : ∃ e, (nmE ys zs)[i]? = some e := ⟨_, List.getElem?_eq_getElem il⟩
        have me := nmE_mem py pz (List.mem_of_getElem? ee)
        have tup := s4 _ _ (nm.2 i t e et ee)
        refine ⟨rfl, _, rfl, _, rfl, x, dr, df, ds, dl, Z, R, S, F, L, b, t, e, rfl, st.same (s2.trans s4), rc, sc, SqT.of tup, me, ?_⟩
        have := fin rfl _ (Same.refl _)
        rw [List.getD_eq_getElem?_getD, List.getElem?_map, ee] at this
        exact this
    · rw [filter_all, lts] at eD
      have ev : (List.range ts.length).map (fun i => V.int (((nmE ys zs).map (rmB R S)).getD i 0)) = ((nmE ys zs).map (rmB R S)).map V.int := by
        refine List.ext_getElem? fun i => ?_
        rw [List.getElem?_map, List.getElem?_map, List.getElem?_map]
        rcases Nat.lt_or_ge i ts.length with z | z
        · rw [List.getElem?_range z]
          have il : i < (nmE ys zs).length := by rw [← nm.1]; exact z
          rw [List.getElem?_eq_getElem il]
          show some (V.int (((nmE ys zs).map (rmB R S)).getD i 0)) = _
          rw [List.getD_eq_getElem?_getD, List.getElem?_map, List.getElem?_eq_getElem il]
          rfl
        · rw [List.getElem?_eq_none (by rw [List.length_range]; exact z), List.getElem?_eq_none (by rw [← nm.1]; exact z)]
          rfl
      rw [ev] at eD
      refine ⟨D, _, rfl, SqL.of eD, ?_⟩
      rw [nmE_sum py pz]
      exact q _ (s2.trans s4)
end
end K1
namespace K1
open PySem PySem.Spec PyProof.Rows L2 Ow Tlz
abbrev s_law_sorted : Stmt := topS 27
abbrev N_law_sorted : List Str := ["rows", "ordered", "row", "at", "other"]
theorem sc_law_sorted : FnScope N_law_sorted ["rows"] (defScope s_law_sorted) := ⟨rfl, rfl, rfl, by decide +kernel, rfl, by decide +kernel, by decide +kernel⟩
def spSorted (K : PySem.W.Frag) : Sp := fun vs H Q _ => ∃ (a : Addr) (rs : List (Addr × List V)), vs = [.ref a] ∧ SqL K H a (rrefs rs) ∧ RowsOk K H rs ∧ rs.length ≤ 300 ∧
  ∀ (rs' : List (Addr × List V)) (p : Addr) H', Same H H' → H p = none → H' p = some (.lst (rrefs rs')) → RowsOk K H' rs' → rs'.length ≤ rs.length → Q (.ref p) H'
theorem hu65 {k : Nat} {A : Around} (hr : Room k A) : A.units + 65 < cLine := by have := hr.un; omega
section
variable {P : Program} {w : World} {K : PySem.W.Frag} {mg : Str → Option Value} {base : Heap} {C : Addr}
theorem ok_sorted {f : Addr} {fd : FuncData} (F0 : Fun K "_law_sorted" "_law_sorted" s_law_sorted f fd) (T : Bl mg)
    (D_law_order : Kn P w K mg base 2 "_law_order" ["first", "second"] (spOrder K)) :
    FnOk P w K mg base CX0 3 f fd ["rows"] (spSorted K) := by
  refine F0.ok sc_law_sorted (fun vs H Q E h => ?_) (fun cdv A outer s H vs Q E hr h => ?_)
  · obtain ⟨a, rs, rfl, _⟩ := h
    rfl
  · obtain ⟨a, rs, rfl, ha, ro, lr, q⟩ := h
    refine ⟨_, (pss_cons (ps_set (i := 1) sc_law_sorted.nd rfl (.inl rfl) (pe_lst pa_nil))
      (pss_cons (ps_for PassesOwn.never rfl (pi_list (pv 0)) (pg_name (i := 2) sc_law_sorted.nd rfl (.inl rfl)) (pss_cons (ps_set (i := 3) sc_law_sorted.nd rfl (.inl rfl) pe_int)
      (pss_cons (ps_for PassesOwn.never rfl (pi_list (pv 1)) (pg_name (i := 4) sc_law_sorted.nd rfl (.inl rfl)) (pss_one (ps_set (i := 3) sc_law_sorted.nd rfl (.inl rfl) (pe_op op_add (pv 3) (pe_callTy call_int1 (by rfl) T.int (by decide +kernel) (pa_cons (pe_cmpR op_lt (pe_kn D_law_order hr (pa_cons (pv 4) (pa_cons (pv 2) pa_nil))) pe_int (nomark _)) pa_nil))))))
      (pss_one (ps_if (pt_cmpR (op_notInD (hu65 hr)) (pv 2) (pv 1) (by rfl)) (pss_one (ps_expr (pe_bm PySem.F.plainAttrs_list PySem.F.slot_list_insert PySem.F.type_list_insert mt_insert (pv 1) (pa_cons (pv 3) (pa_cons (pv 2) pa_nil))))) pss_nil)))))
      (pss_one (ps_ret (pv 1))))), ?_⟩
    refine ⟨sz 0, fun o no => ?_⟩
    refine ⟨_, rfl, a, rfl, ⟨_, (Same.new no).seq ha⟩, for_list (K := K) (a := a) (xs := rrefs rs) (fun i σ H4 => ∃ (y2 y3 y4 : Option V) (ts : List (Addr × List V)), σ = [some (.ref a), some (.ref o), y2, y3, y4] ∧ Same H H4 ∧ H4 o = some (.lst (rrefs ts)) ∧ RowsOk K H4 ts ∧ ts.length ≤ i)
      ⟨none, none, none, [], rfl, Same.new no, upd_same, (fun _ m => nomatch m), Nat.le_refl _⟩ (fun i σ H4 _ hP => ?_) (fun i y σ H4 hy hP => ?_) (fun σ H4 hP => ?_)⟩
    · obtain ⟨_, _, _, _, _, s4, _⟩ := hP
      exact s4.seq ha
    · obtain ⟨y2, y3, y4, ts, rfl, s4, eo, rt, lt⟩ := hP
      obtain ⟨t, et, rfl⟩ := rrefs_get hy
      have mt := List.mem_of_getElem? et
      have il : i < rs.length := (List.getElem?_eq_some_iff.mp et).1
      obtain ⟨ht, st, l10⟩ := (ro.same s4) t mt
      refine ⟨_, rfl, o, rfl, ⟨_, SqL.of eo⟩, for_list (K := K) (a := o) (xs := rrefs ts) (fun j σ H5 => ∃ (n : Nat) (y4 : Option V), σ = [some (.ref a), some (.ref o), some (.ref t.1), some (.int (n : Int)), y4] ∧ n ≤ j ∧ H5 = H4)
        ⟨0, y4, rfl, Nat.le_refl _, rfl⟩ (fun j σ H5 _ hP => ?_) (fun j y σ H5 hy hP => ?_) (fun σ H5 hP => ?_)⟩
      · obtain ⟨_, _, _, _, rfl⟩ := hP
        exact SqL.of eo
      · obtain ⟨n, y4, rfl, ln, rfl⟩ := hP
        obtain ⟨u, eu, rfl⟩ := rrefs_get hy
        obtain ⟨hu, su, lu⟩ := rt u (List.mem_of_getElem? eu)
        refine ⟨_, rfl, _, rfl, _, rfl, u.1, t.1, u.2, t.2, rfl, hu, ht, by omega, su, st, _, _, rfl, rfl, .inr ⟨_, rfl, _, _, rfl, rfl, ?_⟩⟩
        by_cases e : orderV u.2 t.2 < 0
        · exact ⟨n + 1, some (V.ref u.1), by rw [if_pos (decide_eq_true e)]; rfl, by omega, rfl⟩
        · exact ⟨n, some (V.ref u.1), by rw [if_neg (fun z => e (of_decide_eq_true z))]; simp, by omega, rfl⟩
      · obtain ⟨n, y4, rfl, ln, rfl⟩ := hP
        rw [rrefs_len] at ln
        have shl : SeqAt.shaped (.list (ts.map fun t => rowD t.2)) = true := rws_shaped fun u m => (rt u m).2.1
        refine ⟨_, rfl, _, rfl, rowD t.2, ts.map (fun (t : Addr × List V) => rowD t.2), .tup ht (sc_dp st), .lst (SqL.of eo) (rws_dp rt), row_shaped st, shl, _, rfl, ?_⟩
        refine ite2 (fun e => ?_) (fun e => ?_)
        · refine ⟨_, rfl, .inl ⟨rfl, _, .inl (.inl eo)⟩, _, rfl, _, rfl, o, rrefs ts, (n : Int), .ref t.1, rfl, rfl, eo, ?_, by omega, by omega, ?_⟩
          · rw [rrefs_len]
            exact small (m := 1000) (by omega) (by decide)
          · have er : (rrefs ts).take (n : Int).toNat ++ [V.ref t.1] ++ (rrefs ts).drop (n : Int).toNat = rrefs (ts.take n ++ [t] ++ ts.drop n) := by
              unfold rrefs
              rw [List.map_append, List.map_append, List.map_take, List.map_drop]
              rfl
            rw [er]
            have tk := Tk.put (K := K) (o := .lst (rrefs (ts.take n ++ [t] ++ ts.drop n))) eo
            refine ⟨_, _, _, ts.take n ++ [t] ++ ts.drop n, rfl, Same.over s4 no, upd_same, fun u m => ?_, ?_⟩
            · rcases List.mem_append.mp m with m | m
              · rcases List.mem_append.mp m with m | m
                · exact rt.tk tk u (List.mem_of_mem_take m)
                · rw [List.mem_singleton.mp m]
                  exact ⟨tk _ _ ht, st, l10⟩
              · exact rt.tk tk u (List.mem_of_mem_drop m)
            · rw [List.length_append, List.length_append, List.length_take, List.length_drop]
              show min n ts.length + 1 + (ts.length - n) ≤ i + 1
              omega
        · exact ⟨_, _, _, ts, rfl, s4, eo, rt, by omega⟩
    · obtain ⟨y2, y3, y4, ts, rfl, s4, eo, rt, lt⟩ := hP
      rw [rrefs_len] at lt
      exact ⟨_, rfl, q ts o _ s4 no eo rt lt⟩
end
end K1
namespace K1
open PySem PySem.Spec PyProof.Rows L2 Ow Tlz
theorem Rng.tk {K : PySem.W.Frag} {d p : Addr} {H H' : Hp} (r : Rng d H p) (g : Gw p H H') : Tk K H H' := by
  obtain ⟨ds, k, h, _⟩ := r
  exact Tk.gw h g
theorem cut_take (xs : List V) {v : Int} (h : 0 ≤ v) : cutV xs none (some v) = xs.take v.toNat := by
  unfold cutV
  have e : v = ((v.toNat : Nat) : Int) := by omega
  have i2 : HT.sIx xs.length xs.length (some v) = min v.toNat xs.length := by
    have := HT.sIx_nat xs.length xs.length v.toNat
    rw [← e] at this
    exact this
  rw [HT.sIx_none, i2, List.drop_zero, Nat.sub_zero]
  by_cases hv : v.toNat ≤ xs.length
  · rw [Nat.min_eq_left hv]
  · rw [Nat.min_eq_right (by omega), List.take_length, List.take_of_length_le (by omega)]
def CN (cols : List V) : Prop := 0 < cols.length ∧ cols.length ≤ 10
/-- the three tables of a shelf -/
structure ShAt (K : PySem.W.Frag) (H : Hp) (dr df ds : Addr) (R : Tb) (F : Fb) (S : Tb) : Prop where
  r : H dr = some (.dK (kvR R))
  rt : ∀ e ∈ R, SqT K H e.2.1 e.2.2
  rc : ∀ e ∈ R, ∃ c cols r, e.2.2 = [.ref c, .int r] ∧ SqT K H c cols ∧ CN cols
  f : H df = some (.dK (kvF F))
  ft : ∀ e ∈ F, H e.2.1 = some (.lst (rrefs e.2.2)) ∧ RowsOk K H e.2.2 ∧ e.2.2.length ≤ 20
  s : H ds = some (.dK (kvR S))
  st : ∀ e ∈ S, SqT K H e.2.1 e.2.2
  sc : StrC S
  rn : (R.map (·.1)).Nodup
  fn : (F.map (·.1)).Nodup
  sn : (S.map (·.1)).Nodup
  ne : dr ≠ df ∧ dr ≠ ds ∧ df ≠ ds
theorem rrefs_rng {rs : List (Addr × List V)} {d : Addr} {k : Int} (h : rrefs rs = [.ref d, .int k]) : False := by
  unfold rrefs at h
  match rs, h with
  | [_, b], h =>
    rw [List.map_cons, List.map_cons] at h
    injection h with _ h
    injection h with h _
    cases h
section
variable {K : PySem.W.Frag} {H H' : Hp} {dr df ds p d : Addr} {R S : Tb} {F : Fb}
theorem ShAt.same (h : ShAt K H dr df ds R F S) (s : Same H H') : ShAt K H' dr df ds R F S := by
  obtain ⟨r, rt, rc, f, ft, s', st, sc, rn, fn, sn, ne⟩ := h
  exact ⟨s _ _ r, fun e m => Tk.same s _ _ (rt e m), fun e m => let ⟨c, cols, r, h1, h2, h3⟩ := rc e m; ⟨c, cols, r, h1, Tk.same s _ _ h2, h3⟩, s _ _ f, fun e m => ⟨s _ _ (ft e m).1, (ft e m).2.1.same s, (ft e m).2.2⟩,
    s _ _ s', fun e m => Tk.same s _ _ (st e m), sc, rn, fn, sn, ne⟩
theorem ShAt.gw (h : ShAt K H dr df ds R F S) (rg : Rng d H p) (g : Gw p H H') : ShAt K H' dr df ds R F S := by
  obtain ⟨r, rt, rc, f, ft, s', st, sc, rn, fn, sn, ne⟩ := h
  have tk := Rng.tk (K := K) rg g
  obtain ⟨ns, k, hp, _, _⟩ := rg
  have no : ∀ (a : Addr) (kvs : List (Key × V)), H a = some (.dK kvs) → a ≠ p := fun a kvs e w => by rw [w, hp] at e; cases e
  refine ⟨g _ _ (no _ _ r) r, fun e m => tk _ _ (rt e m), fun e m => let ⟨c, cols, r, h1, h2, h3⟩ := rc e m; ⟨c, cols, r, h1, tk _ _ h2, h3⟩, g _ _ (no _ _ f) f, fun e m => ⟨g _ _ (fun w => ?_) (ft e m).1, (ft e m).2.1.tk tk, (ft e m).2.2⟩,
    g _ _ (no _ _ s') s', fun e m => tk _ _ (st e m), sc, rn, fn, sn, ne⟩
  have h1 := (ft e m).1
  rw [w, hp] at h1
  injection h1 with h1
  injection h1 with h1
  exact rrefs_rng h1.symm
theorem ShAt.rel {n : Str} {q c : Addr} {cols : List V} {r : Int} (h : ShAt K H dr df ds R F S) (hq : SqT K H q [.ref c, .int r]) (hc : SqT K H c cols) (hn : CN cols) :
    ShAt K (upd H dr (.dK (putK (kvR R) (Sum.inr n) (.ref q)))) dr df ds (putG R n (q, [.ref c, .int r])) F S := by
  obtain ⟨r', rt, rc, f, ft, s', st, sc, rn, fn, sn, ne⟩ := h
  have tk : Tk K H (upd H dr (.dK (putK (kvR R) (Sum.inr n) (.ref q)))) := Tk.dK r'
  refine ⟨?_, fun e m => ?_, fun e m => ?_, by rw [upd_ne ne.1.symm]; exact f, fun e m => ⟨?_, (ft e m).2.1.tk tk, (ft e m).2.2⟩, by rw [upd_ne ne.2.1.symm]; exact s', fun e m => tk _ _ (st e m), sc, putG_nodup rn, fn, sn, ne⟩
  · rw [upd_same]
    exact congrArg (fun t => some (HO.dK t)) (kvG_put (fun b : Addr × List V => V.ref b.1) R n (q, [.ref c, .int r]))
  · rcases putG_mem m with w | ⟨w, _⟩
    · rw [w]; exact tk _ _ hq
    · exact tk _ _ (rt e w)
  · rcases putG_mem m with w | ⟨w, _⟩
    · rw [w]; exact ⟨c, cols, r, rfl, tk _ _ hc, hn⟩
    · obtain ⟨c, cols, r, h1, h2, h3⟩ := rc e w
      exact ⟨c, cols, r, h1, tk _ _ h2, h3⟩
  · rw [upd_ne (fun w => by have := (ft e m).1; rw [w, r'] at this; cases this)]
    exact (ft e m).1
theorem ShAt.fac {n : Str} {q : Addr} {rs : List (Addr × List V)} (h : ShAt K H dr df ds R F S) (hq : H q = some (.lst (rrefs rs))) (ro : RowsOk K H rs) (lr : rs.length ≤ 20) :
    ShAt K (upd H df (.dK (putK (kvF F) (Sum.inr n) (.ref q)))) dr df ds R (putG F n (q, rs)) S := by
  obtain ⟨r', rt, rc, f, ft, s', st, sc, rn, fn, sn, ne⟩ := h
  have tk : Tk K H (upd H df (.dK (putK (kvF F) (Sum.inr n) (.ref q)))) := Tk.dK f
  refine ⟨by rw [upd_ne ne.1]; exact r', fun e m => tk _ _ (rt e m), fun e m => let ⟨c, cols, r, h1, h2, h3⟩ := rc e m; ⟨c, cols, r, h1, tk _ _ h2, h3⟩, ?_, fun e m => ?_, by rw [upd_ne ne.2.2.symm]; exact s', fun e m => tk _ _ (st e m), sc, rn, putG_nodup fn, sn, ne⟩
  · rw [upd_same]
    exact congrArg (fun t => some (HO.dK t)) (kvG_put (fun b : Addr × List (Addr × List V) => V.ref b.1) F n (q, rs))
  · rcases putG_mem m with w | ⟨w, _⟩
    · rw [w]
      exact ⟨by rw [upd_ne (show q ≠ df from fun w => by rw [w, f] at hq; cases hq)]; exact hq, ro.tk tk, lr⟩
    · refine ⟨?_, (ft e w).2.1.tk tk, (ft e w).2.2⟩
      rw [upd_ne (fun z => by have := (ft e w).1; rw [z, f] at this; cases this)]
      exact (ft e w).1
theorem ShAt.stru {n : Str} {q : Addr} {u v : V} {b s : Int} (h : ShAt K H dr df ds R F S) (hq : SqT K H q [u, v, .int b, .int s]) (b0 : 0 ≤ b) (b1 : b ≤ 1000) :
    ShAt K (upd H ds (.dK (putK (kvR S) (Sum.inr n) (.ref q)))) dr df ds R F (putG S n (q, [u, v, .int b, .int s])) := by
  obtain ⟨r', rt, rc, f, ft, s', st, sc, rn, fn, sn, ne⟩ := h
  have tk : Tk K H (upd H ds (.dK (putK (kvR S) (Sum.inr n) (.ref q)))) := Tk.dK s'
  refine ⟨by rw [upd_ne ne.2.1]; exact r', fun e m => tk _ _ (rt e m), fun e m => let ⟨c, cols, r, h1, h2, h3⟩ := rc e m; ⟨c, cols, r, h1, tk _ _ h2, h3⟩, by rw [upd_ne ne.2.2]; exact f, fun e m => ⟨?_, (ft e m).2.1.tk tk, (ft e m).2.2⟩, ?_, fun e m => ?_, fun e m => ?_, rn, fn, putG_nodup sn, ne⟩
  · rw [upd_ne (fun w => by have := (ft e m).1; rw [w, s'] at this; cases this)]
    exact (ft e m).1
  · rw [upd_same]
    exact congrArg (fun t => some (HO.dK t)) (kvG_put (fun b : Addr × List V => V.ref b.1) S n (q, [u, v, .int b, .int s]))
  · rcases putG_mem m with w | ⟨w, _⟩
    · rw [w]; exact tk _ _ hq
    · exact tk _ _ (st e w)
  · rcases putG_mem m with w | ⟨w, _⟩
    · rw [w]; exact ⟨u, v, b, s, rfl, b0, b1⟩
    · exact sc e w
end
theorem cutV_all {xs : List V} {lo hi : Option Int} (h : HT.sIx xs.length 0 lo = 0 ∧ HT.sIx xs.length xs.length hi = xs.length) : cutV xs lo hi = xs := by
  unfold cutV
  rw [h.1, h.2, List.drop_zero, Nat.sub_zero, List.take_length]
def rSlB2 (K : PySem.W.Frag) : V → Option Int → Option Int → Hp → VK → Prop := fun x lo hi H Q => ∃ a xs, x = .ref a ∧ SqT K H a xs ∧ ∀ c H', SqT K H' c (cutV xs lo hi) → Same H H' → Q (.ref c) H'
theorem sl_tupB {X : Cx} : SlR X (rSlB2 X.K) := by
  intro pins s σ H x v vl vu lo hi sl Q I rx hs pl pu h
  obtain ⟨a, xs, rfl, hx, q⟩ := h
  exact sl_tupA pins s σ H _ v vl vu lo hi sl Q I rx hs pl pu ⟨a, xs, rfl, hx, fun wh => q a H (by rw [cutV_all wh]; exact hx) (Same.refl _), fun _ p np => q p _ (SqT.of upd_same) (Same.new np)⟩
def rTupK (K : PySem.W.Frag) : List V → Hp → VK → Prop := fun xs H Q => ∃ p ys, xs = [V.ref p] ∧ ((SqL K H p ys ∧ ∀ l, H l = none → Q (.ref l) (upd H l (.tup ys))) ∨ (SqT K H p ys ∧ Q (.ref p) H))
theorem call_tuple_K {X : Cx} {K : PySem.W.Frag} (e : X.K = K) : CallR X (.type "tuple") (rTupK K) := by
  subst e
  exact call_tuple_of
def spShelf (K : PySem.W.Frag) : Sp := fun vs H Q _ => ∃ (p d : Addr) (m : Nat), vs = [.ref p, .int (m : Int)] ∧ m ≤ 10 ∧ Rng d H p ∧
  Drw p d H Q fun x H' => ∃ (ls dr df ds : Addr) (R S : Tb) (F : Fb), x = .ref ls ∧ H' ls = some (.lst [.ref dr, .ref df, .ref ds]) ∧ ShAt K H' dr df ds R F S ∧ R.length ≤ 3 ∧ F.length ≤ 3 ∧ S.length ≤ 3
abbrev s_law_shelf : Stmt := topS 29
abbrev N_law_shelf : List Str := ["state", "most", "relations", "facts", "structures", "name", "width", "count", "relation", "columns", "column", "j", "k"]
theorem sc_law_shelf : FnScope N_law_shelf ["state", "most"] (defScope s_law_shelf) := ⟨rfl, rfl, rfl, by decide +kernel, rfl, by decide +kernel, by decide +kernel⟩
abbrev scJ : Scope := { kind := .function, names := [(".0", .local), ("j", .local), ("tuple", .globalImplicit), ("range", .globalImplicit), ("state", .cell), ("width", .cell)], isGenerator := false, isCoroutine := false, more := [] }
def K3 : List Str := ["r", "s", "t2"]
theorem K3_nd : K3.Nodup := by decide +kernel
theorem nd_take {xs : List Str} (nd : xs.Nodup) {i : Nat} {n : Str} (h : xs[i]? = some n) : n ∉ xs.take i := by
  intro m
  obtain ⟨j, hj, ej⟩ := List.mem_iff_getElem.mp m
  rw [List.length_take] at hj
  obtain ⟨hi, ei⟩ := List.getElem?_eq_some_iff.mp h
  rw [List.getElem_take] at ej
  exact (List.pairwise_iff_getElem.mp nd) j i (by omega) hi (by omega) (by rw [ej, ei])
theorem valG_not {β : Type} {l : List (Str × β)} {n : Str} (h : n ∉ l.map (·.1)) : valG l n = none := by
  cases e : valG l n with
  | none => rfl
  | some b => exact absurd (List.mem_map.mpr ⟨_, valG_mem e, rfl⟩) h
theorem putG_take {β : Type} {l : List (Str × β)} {xs : List Str} {i : Nat} {n : Str} {b : β} (nd : xs.Nodup) (e : l.map (·.1) = xs.take i) (h : xs[i]? = some n) : (putG l n b).map (·.1) = xs.take (i + 1) := by
  have hn : valG l n = none := valG_not (by rw [e]; exact nd_take nd h)
  rw [putG_new b hn, List.map_append, e, List.take_add_one, h]
  rfl
section
variable {P : Program} {w : World} {K : PySem.W.Frag} {mg : Str → Option Value} {base : Heap} {C : Addr}
theorem ok_shelf {f : Addr} {fd : FuncData} (F0 : Fun K "_law_shelf" "_law_shelf" s_law_shelf f fd) (T : Bl mg)
    (D_law_next : Kn P w K mg base 3 "_law_next" ["state", "limit"] spNext)
    (D_law_small : Kn P w K mg base 6 "_law_small" ["state"] spValue)
    (D_law_sorted : Kn P w K mg base 3 "_law_sorted" ["rows"] (spSorted K)) :
    FnOk P w K mg base CX0 7 f fd ["state", "most"] (spShelf K) := by
  refine F0.ok sc_law_shelf (fun vs H Q E h => ?_) (fun cdv A outer s H vs Q E hr h => ?_)
  · obtain ⟨p, d, m, rfl, _⟩ := h
    rfl
  · obtain ⟨p, d, m, rfl, lm, rg, q⟩ := h
    have hu := hu_of hr
    refine ⟨_, (pss_cons (ps_set (i := 2) sc_law_shelf.nd rfl (.inl rfl) pe_dnewK)
      (pss_cons (ps_set (i := 3) sc_law_shelf.nd rfl (.inl rfl) pe_dnewK)
      (pss_cons (ps_set (i := 4) sc_law_shelf.nd rfl (.inl rfl) pe_dnewK)
      (pss_mid (ps_for PassesOwn.never rfl (pi_list (pe_slice sl_list (pe_lst (pa_cons pe_str (pa_cons pe_str (pa_cons pe_str pa_nil)))) po_none (po_some (pe_kn D_law_next hr (pa_cons (pv 0) (pa_cons pe_int pa_nil)))))) (pg_name (i := 5) sc_law_shelf.nd rfl (.inl rfl)) (pss_cons (ps_set (i := 6) sc_law_shelf.nd rfl (.inr rfl) (pe_op op_add pe_int (pe_kn D_law_next hr (pa_cons (pv 0) (pa_cons pe_int pa_nil)))))
      (pss_cons (ps_dput hu (pv 2) (pv 5) (pe_tup (pa_cons (pe_slice sl_tupB (pe_tup (pa_cons pe_str (pa_cons pe_str (pa_cons pe_str (pa_cons pe_str pa_nil))))) po_none (po_some (pv 6))) (pa_cons (pe_ix ix_list (pe_lst (pa_cons pe_int (pa_cons pe_int (pa_cons (pe_op op_add pe_int (pe_kn D_law_next hr (pa_cons (pv 0) (pa_cons pe_int pa_nil)))) pa_nil)))) (pe_kn D_law_next hr (pa_cons (pv 0) (pa_cons pe_int pa_nil))) (fun _ _ => rfl)) pa_nil))) rfl)
      (pss_cons (ps_set (i := 7) sc_law_shelf.nd rfl (.inl rfl) (pe_kn D_law_next hr (pa_cons (pv 0) (pa_cons (pe_op op_add (pv 1) pe_int) pa_nil))))
      (pss_one (ps_dput hu (pv 3) (pv 5) (pe_kn D_law_sorted hr (pa_cons (pe_lc (own := [("j", 11)]) (g := gName 11) rfl sc_law_shelf.nd (pi_range1 (by rfl) T.range (pa_cons (pv 7) pa_nil)) (blkOk_by (own := [("j", 11)]) (N := N_law_shelf) (sc := defScope s_law_shelf) (by decide +kernel)) (fun _ _ _ _ _ => pg_name (i := 11) sc_law_shelf.nd rfl (Or.inl rfl)) (fun _ _ _ _ _ => pts_nil) (fun _ _ _ _ _ => (pe_callTy (call_tuple_K (K := K) rfl) (by rfl) T.tuple (by decide +kernel) (pa_cons (pe_lc (own := [("k", 12)]) (g := gName 12) rfl sc_law_shelf.nd (pi_range1 (by rfl) T.range (pa_cons (pv 6) pa_nil)) (blkOk_by (own := [("k", 12)]) (N := N_law_shelf) (sc := scJ) (by decide +kernel)) (fun _ _ _ _ _ => pg_name (i := 12) sc_law_shelf.nd rfl (Or.inl rfl)) (fun _ _ _ _ _ => pts_nil) (fun _ _ _ _ _ => (pe_kn D_law_small hr (pa_cons (pv 0) pa_nil)))) pa_nil)))) pa_nil)) rfl))))))
      (pss_cons (ps_for PassesOwn.never rfl (pi_list (pe_slice sl_list (pe_lst (pa_cons pe_str (pa_cons pe_str (pa_cons pe_str pa_nil)))) po_none (po_some (pe_op op_mul (pe_kn D_law_next hr (pa_cons (pv 0) (pa_cons pe_int pa_nil))) (pe_callTy call_int1 (by rfl) T.int (by decide +kernel) (pa_cons (pe_cmpR op_gt (pe_callB call_lenD (by rfl) T.len PySem.boot_len (pa_cons (pv 2) pa_nil)) pe_int (nomark _)) pa_nil)))))) (pg_name (i := 5) sc_law_shelf.nd rfl (.inl rfl)) (pss_cons (ps_set (i := 8) sc_law_shelf.nd rfl (.inl rfl) (pe_ix ix_list (pe_lst (pa_cons pe_str (pa_cons pe_str (pa_cons pe_str pa_nil)))) (pe_kn D_law_next hr (pa_cons (pv 0) (pa_cons (pe_callB call_lenD (by rfl) T.len PySem.boot_len (pa_cons (pv 2) pa_nil)) pa_nil))) (fun _ _ => rfl)))
      (pss_cons (ps_set (i := 9) sc_law_shelf.nd rfl (.inl rfl) (pe_lst pa_nil))
      (pss_cons (ps_for PassesOwn.never rfl (pi_tup (pe_ix ix_tup (pe_dget hu (pv 2) (pv 8) (fun _ _ => rfl)) pe_int (fun _ _ => rfl))) (pg_name (i := 10) sc_law_shelf.nd rfl (.inl rfl)) (pss_one (ps_if (pt_cmpR op_eq (pe_kn D_law_next hr (pa_cons (pv 0) (pa_cons pe_int pa_nil))) pe_int (nomark _)) (pss_one (ps_expr (pe_bm PySem.F.plainAttrs_list PySem.F.slot_list_insert PySem.F.type_list_insert mt_insert (pv 9) (pa_cons (pe_kn D_law_next hr (pa_cons (pv 0) (pa_cons (pe_op op_add (pe_callB call_len_seq (by rfl) T.len PySem.boot_len (pa_cons (pv 9) pa_nil)) pe_int) pa_nil))) (pa_cons (pv 10) pa_nil))))) pss_nil)))
      (pss_mid (ps_if (pt_cmpR op_eq (pe_callB call_len_seq (by rfl) T.len PySem.boot_len (pa_cons (pv 9) pa_nil)) pe_int (nomark _)) (pss_one (ps_set (i := 9) sc_law_shelf.nd rfl (.inl rfl) (pe_lst (pa_cons (pe_ix ix_tup (pe_ix ix_tup (pe_dget hu (pv 2) (pv 8) (fun _ _ => rfl)) pe_int (fun _ _ => rfl)) pe_int (fun _ _ => rfl)) pa_nil)))) pss_nil)
      (pss_one (ps_dput hu (pv 4) (pv 5) (pe_tup (pa_cons (pv 8) (pa_cons (pe_callTy call_tuple_of (by rfl) T.tuple (by decide +kernel) (pa_cons (pv 9) pa_nil)) (pa_cons (pe_op op_add pe_int (pe_kn D_law_next hr (pa_cons (pv 0) (pa_cons (pe_ix ix_list (pe_lst (pa_cons pe_int (pa_cons pe_int pa_nil))) (pe_kn D_law_next hr (pa_cons (pv 0) (pa_cons pe_int pa_nil))) (fun _ _ => rfl)) pa_nil)))) (pa_cons (pe_op op_add pe_int (pe_kn D_law_next hr (pa_cons (pv 0) (pa_cons pe_int pa_nil)))) pa_nil))))) rfl)))))))
      (pss_one (ps_ret (pe_lst (pa_cons (pv 2) (pa_cons (pv 3) (pa_cons (pv 4) pa_nil))))))))))), ?_⟩
    refine fun dr nr => ?_
    have s1 := Same.new (o := .dK []) nr
    have r1 := upd_same (H := H) (a := dr) (o := .dK [])
    generalize (upd H dr (.dK [])) = H1 at *
    refine fun df nf => ?_
    have s2 := Same.new (o := .dK []) nf
    have f2 := upd_same (H := H1) (a := df) (o := .dK [])
    have nrf : dr ≠ df := ne_of_none r1 nf
    have nfH : H df = none := s1.free nf
    generalize (upd H1 df (.dK [])) = H2 at *
    refine fun ds ns => ?_
    have s3 := Same.new (o := .dK []) ns
    have e3 := upd_same (H := H2) (a := ds) (o := .dK [])
    have nrs : dr ≠ ds := ne_of_none (s2 _ _ r1) ns
    have nfs : df ≠ ds := ne_of_none f2 ns
    have nsH : H ds = none := s1.free (s2.free ns)
    generalize (upd H2 ds (.dK [])) = H3 at *
    have s03 := (s1.trans s2).trans s3
    have sh3 : ShAt K H3 dr df ds [] [] [] := ⟨s3 _ _ (s2 _ _ r1), (fun _ m => nomatch m), (fun _ m => nomatch m), s3 _ _ f2, (fun _ m => nomatch m), e3, (fun _ m => nomatch m), (fun _ m => nomatch m), .nil, .nil, .nil, ⟨nrf, nrs, nfs⟩⟩
    have rg3 := rg.same s03
    have gw3 : Gw p H H3 := Gw.same s03
    clear s1 s2 s3 r1 f2 e3
    -- the relations
    refine ⟨fun σ H' => ∃ (n : Nat) (y5 y6 y7 : Option V) (R : Tb) (F : Fb), σ = [some (.ref p), some (.int (m : Int)), some (.ref dr), some (.ref df), some (.ref ds), y5, y6, y7, none, none, none, none, none] ∧
        ShAt K H' dr df ds R F [] ∧ R.map (·.1) = K3.take n ∧ n ≤ 3 ∧ F.length ≤ 3 ∧ Rng d H' p ∧ Gw p H H', ?_, ?_⟩
    · refine ⟨sz 3, fun l0 nl0 => ⟨_, rfl, p, d, 4, rfl, by decide, rg3.same (Same.new nl0), ?_⟩⟩
      rintro x4 H4 ⟨v, rfl, v0, v1⟩ gw4 rg4
      have l0p := (rg3.free nl0).1
      have sh4 := (sh3.same (Same.new (o := .lst [V.str "r", .str "s", .str "t2"]) nl0)).gw (rg3.same (Same.new nl0)) gw4
      have gw04 : Gw p H H4 := (gw3.trans (Gw.new nl0)).trans gw4
      refine ⟨v, rfl, l0, _, rfl, SqL.of (gw4.keep upd_same l0p), fun lp nlp => ?_⟩
      have el : cutV [V.str "r", .str "s", .str "t2"] none (some v) = (K3.take v.toNat).map V.str := by
        rw [cut_take _ v0, List.map_take]
        rfl
      rw [el]
      have s5 := Same.new (o := .lst ((K3.take v.toNat).map V.str)) nlp
      have e5 := upd_same (H := H4) (a := lp) (o := .lst ((K3.take v.toNat).map V.str))
      have lpp := (rg4.free nlp).1
      have rg5 := rg4.same s5
      have sh5 := sh4.same s5
      have gw5 : Gw p H (upd H4 lp (.lst ((K3.take v.toNat).map V.str))) := gw04.trans (Gw.same s5)
      generalize (upd H4 lp (.lst ((K3.take v.toNat).map V.str))) = H5 at *
      have ltk : (K3.take v.toNat).length = v.toNat := by
        rw [List.length_take]
        show min v.toNat 3 = _
        omega
      refine ⟨lp, rfl, ⟨_, SqL.of e5⟩, for_list (K := K) (a := lp) (xs := (K3.take v.toNat).map V.str) (fun i σ H6 => ∃ (y5 y6 y7 : Option V) (R : Tb) (F : Fb), σ = [some (.ref p), some (.int (m : Int)), some (.ref dr), some (.ref df), some (.ref ds), y5, y6, y7, none, none, none, none, none] ∧
          ShAt K H6 dr df ds R F [] ∧ R.map (·.1) = K3.take i ∧ F.length ≤ i ∧ Rng d H6 p ∧ Gw p H H6 ∧ H6 lp = some (.lst ((K3.take v.toNat).map V.str)))
        ⟨none, none, none, [], [], rfl, sh5, rfl, Nat.le_refl _, rg5, gw5, e5⟩ (fun i σ H6 _ hP => ?_) (fun i y σ H6 hy hP => ?_) (fun σ H6 hP => ?_)⟩
      · obtain ⟨_, _, _, _, _, _, _, _, _, _, _, h⟩ := hP
        exact SqL.of h
      · obtain ⟨y5, y6, y7, R, F, rfl, sh6, eR, lF, rg6, gw6, el6⟩ := hP
        obtain ⟨n, en, rfl⟩ : ∃ n, K3[i]? = some n ∧ y = V.str n := by
          rw [List.getElem?_map] at hy
          cases z : (K3.take v.toNat)[i]? with
          | none => rw [z] at hy; cases hy
          | some n =>
            rw [z] at hy
            rw [List.getElem?_take] at z
            split at z
            · exact ⟨n, z, (Option.some.inj hy).symm⟩
            · cases z
        have il : i < 3 := (List.getElem?_eq_some_iff.mp en).1
        -- width
        refine ⟨_, rfl, p, d, 4, rfl, by decide, rg6, ?_⟩
        rintro x7 H7 ⟨w7, rfl, w70, w71⟩ gw7 rg7
        have sh7 := sh6.gw rg6 gw7
        have el7 := gw7.keep el6 lpp
        refine ⟨_, _, rfl, rfl, ?_⟩
        -- relations[name] = ..
        refine ⟨sz 4, fun t0 nt0 => ⟨_, rfl, 1 + w7, rfl, t0, _, rfl, SqT.of upd_same, fun c H8 hc s8 => ?_⟩⟩
        rw [cut_take _ (show (0 : Int) ≤ 1 + w7 by omega)] at hc
        have s78 := (Same.new (o := .tup [V.str "x", .str "y", .str "z", .str "w"]) nt0).trans s8
        have ncol : CN ([V.str "x", .str "y", .str "z", .str "w"].take (1 + w7).toNat) := by
          unfold CN
          rw [List.length_take]
          show 0 < min (1 + w7).toNat 4 ∧ min (1 + w7).toNat 4 ≤ 10
          omega
        have sh8 := sh7.same s78
        have rg8 := rg7.same s78
        refine ⟨_, rfl, p, d, 40, rfl, by decide, rg8, ?_⟩
        rintro x9 H9 ⟨w9, rfl, w90, w91⟩ gw9 rg9
        refine ⟨_, _, rfl, rfl, sz 3, fun t1 nt1 => ?_⟩
        have t1p := (rg9.free nt1).1
        refine ⟨_, rfl, p, d, 3, rfl, by decide, rg9.same (Same.new nt1), ?_⟩
        rintro x10 H10 ⟨w10, rfl, w100, w101⟩ gw10 rg10
        have gw810 : Gw p H8 H10 := (gw9.trans (Gw.new nt1)).trans gw10
        have sh10 := sh8.gw rg8 gw810
        obtain ⟨r10, hr10, mr10⟩ := at_in (xs := [V.int 1, .int 2, .int (1 + w9)]) w100 w101
        obtain ⟨room, eroom⟩ : ∃ room : Int, r10 = V.int room := by
          simp only [List.mem_cons, List.not_mem_nil, or_false] at mr10
          rcases mr10 with rfl | rfl | rfl <;> exact ⟨_, rfl⟩
        subst eroom
        refine ⟨t1, _, w10, .int room, rfl, rfl, SqL.of (gw10.keep upd_same t1p), hr10, sz 2, fun t2 nt2 => ?_⟩
        have s11 := Same.new (o := .tup [V.ref c, .int room]) nt2
        have sh11 := sh10.same s11
        have rg11 := rg10.same s11
        have et2 := upd_same (H := H10) (a := t2) (o := .tup [V.ref c, .int room])
        have gw811 : Gw p H8 (upd H10 t2 (.tup [V.ref c, .int room])) := gw810.trans (Gw.same s11)
        have hc11 := Rng.tk (K := K) rg8 gw811 _ _ hc
        have el11 := gw811.keep (s78 _ _ el7) lpp
        have gw011 : Gw p H (upd H10 t2 (.tup [V.ref c, .int room])) := ((gw6.trans gw7).trans (Gw.same s78)).trans gw811
        generalize (upd H10 t2 (.tup [V.ref c, .int room])) = H11 at *
        have lkR : (kvR R).length ≤ 1000 := by
          have := congrArg List.length eR
          rw [List.length_map, List.length_take] at this
          unfold kvR
          rw [kvG_len]
          omega
        refine ⟨_, rfl, _, rfl, dr, _, rfl, DPut.k (k := Sum.inr n) sh11.r (small lkR (by decide)), ?_⟩
        have sh12 := sh11.rel (n := n) (SqT.of et2) hc11 ncol
        have drp : dr ≠ p ∧ dr ≠ d := by
          have h1 := sh11.r
          obtain ⟨ns, k, hp, _, hd⟩ := rg11
          exact ⟨(fun w => by rw [w, hp] at h1; cases h1), (fun w => by rw [w, hd] at h1; cases h1)⟩
        have dfp : df ≠ p ∧ df ≠ d := by
          have h1 := sh11.f
          obtain ⟨ns, k, hp, _, hd⟩ := rg11
          exact ⟨(fun w => by rw [w, hp] at h1; cases h1), (fun w => by rw [w, hd] at h1; cases h1)⟩
        have drl : lp ≠ dr := fun w => by have h1 := sh11.r; rw [← w, el11] at h1; cases h1
        have rg12 := rg11.upd (o := .dK (putK (kvR R) (Sum.inr n) (.ref t2))) drp
        have gw12 : Gw p H (upd H11 dr (.dK (putK (kvR R) (Sum.inr n) (.ref t2)))) := Gw.over gw011 nr
        have el12 : (upd H11 dr (.dK (putK (kvR R) (Sum.inr n) (.ref t2)))) lp = some (.lst ((K3.take v.toNat).map V.str)) := by rw [upd_ne drl]; exact el11
        generalize (upd H11 dr (.dK (putK (kvR R) (Sum.inr n) (.ref t2)))) = H12 at *
        -- count
        refine ⟨_, rfl, _, rfl, (m : Int), 1, rfl, rfl, p, d, (m : Int) + 1, rfl, by omega, rg12, ?_⟩
        rintro x13 H13 ⟨ct, rfl, ct0, ct1⟩ gw13 rg13
        have sh13 := sh12.gw rg12 gw13
        have el13 := gw13.keep el12 lpp
        -- the rows
        refine ⟨_, rfl, ct, rfl, by omega, by omega, fun D nD => lc_range (lo := 0) (n := ct.toNat) (fun j H14 => ∃ rs : List (Addr × List V), H14 D = some (.lst (rrefs rs)) ∧ rs.length = j ∧ RowsOk K H14 rs ∧ Gw p H13 H14 ∧ Rng d H14 p)
          ⟨[], upd_same, rfl, (fun _ z => nomatch z), Gw.new nD, rg13.same (Same.new nD)⟩ (fun j H14 hj hP => ?_) (fun H14 hP => ?_)⟩
        · obtain ⟨rs, eD, lrs, ro, gw14, rg14⟩ := hP
          have nDp := rg13.free nD
          refine ⟨rfl, ?_⟩
          refine ⟨_, rfl, 1 + w7, rfl, by omega, by omega, fun G nG => lc_range (lo := 0) (n := (1 + w7).toNat) (fun k H15 => ∃ us : List V, H15 G = some (.lst us) ∧ us.length = k ∧ (∀ y ∈ us, Scal y) ∧ Gw p H14 H15 ∧ Rng d H15 p)
            ⟨[], upd_same, rfl, (fun _ z => nomatch z), Gw.new nG, rg14.same (Same.new nG)⟩ (fun k H15 hk hP => ?_) (fun H15 hP => ?_)⟩
          · obtain ⟨us, eG, lus, su, gw15, rg15⟩ := hP
            have nGp := rg14.free nG
            refine ⟨rfl, ?_⟩
            refine ⟨_, rfl, p, d, rfl, rg15, ?_⟩
            rintro x H16 sx gw16 rg16
            refine ⟨us, gw16.keep eG nGp.1, small (m := 1000) (by omega) (by decide), us ++ [x], upd_same, by rw [List.length_append, lus]; rfl, fun y hy => ?_, Gw.over (gw15.trans gw16) nG, rg16.upd nGp⟩
            rcases List.mem_append.mp hy with h | h
            · exact su y h
            · rw [List.mem_singleton.mp h]
              exact sx
          · obtain ⟨us, eG, lus, su, gw15, rg15⟩ := hP
            refine ⟨G, us, rfl, .inl ⟨SqL.of eG, fun l nl => ?_⟩⟩
            have gw16 : Gw p H14 (upd H15 l (.tup us)) := gw15.trans (Gw.new nl)
            have eD16 := gw16.keep eD nDp.1
            have tk16 := Rng.tk (K := K) rg14 gw16
            have tkD : Tk K (upd H15 l (.tup us)) (upd (upd H15 l (.tup us)) D (.lst (rrefs rs ++ [.ref l]))) := Tk.put eD16
            refine ⟨rrefs rs, eD16, ?_, rs ++ [(l, us)], by rw [upd_same, rrefs_snoc], by rw [List.length_append, lrs]; rfl, ((ro.tk tk16).tk tkD).snoc (tkD _ _ (SqT.of upd_same)) su (by omega), Gw.over (gw14.trans gw16) nD, (rg15.same (Same.new nl)).upd nDp⟩
            rw [rrefs_len]
            exact small (m := 1000) (by omega) (by decide)
        · obtain ⟨rs, eD, lrs, ro, gw14, rg14⟩ := hP
          refine ⟨D, rs, rfl, SqL.of eD, ro, by omega, fun rs' l' H15 s15 nl' el' ro' lrs' => ?_⟩
          have sh15 := (sh13.gw rg13 gw14).same s15
          have rg15 := rg14.same s15
          have el15 := s15 _ _ (gw14.keep el13 lpp)
          have gw15 : Gw p H H15 := ((gw12.trans gw13).trans gw14).trans (Gw.same s15)
          have lkF : (kvF F).length ≤ 1000 := by
            unfold kvF
            rw [kvG_len]
            omega
          refine ⟨_, rfl, _, rfl, df, _, rfl, DPut.k (k := Sum.inr n) sh15.f (small lkF (by decide)), ?_⟩
          have sh16 := sh15.fac (n := n) el' ro' (by omega)
          have dfl : lp ≠ df := fun w => by have h1 := sh15.f; rw [← w, el15] at h1; cases h1
          refine ⟨_, _, _, _, _, rfl, sh16, putG_take K3_nd eR en, ?_, rg15.upd dfp, Gw.over gw15 nfH, by rw [upd_ne dfl]; exact el15⟩
          have := putG_len F n (l', rs')
          omega
      · obtain ⟨y5, y6, y7, R, F, rfl, sh6, eR, lF, rg6, gw6, el6⟩ := hP
        rw [List.length_map, ltk] at eR lF
        exact ⟨v.toNat, y5, y6, y7, R, F, rfl, sh6, eR, by omega, by omega, rg6, gw6⟩
    clear gw3 rg3 sh3 s03 ns nf H1 H2 H3
    rintro σ H4 ⟨n, y5, y6, y7, R, F, rfl, sh4, eR, ln, lF, rg4, gw4⟩
    have lR : R.length = n := by
      have := congrArg List.length eR
      rw [List.length_map, List.length_take] at this
      have k3 : K3.length = 3 := rfl
      omega
    have lk : (kvR R).length = n := by
      unfold kvR
      rw [kvG_len, lR]
    -- the structures
    refine ⟨sz 3, fun l0 nl0 => ⟨_, rfl, p, d, 4, rfl, by decide, rg4.same (Same.new nl0), ?_⟩⟩
    rintro x5 H5 ⟨v, rfl, v0, v1⟩ gw5 rg5
    have l0p := (rg4.free nl0).1
    have sh5 := (sh4.same (Same.new (o := .lst [V.str "b1", .str "a", .str "c_3"]) nl0)).gw (rg4.same (Same.new nl0)) gw5
    have gw05 : Gw p H H5 := (gw4.trans (Gw.new nl0)).trans gw5
    obtain ⟨t, et⟩ : ∃ t : Int, t = v * (if decide ((0 : Int) < ((kvR R).length : Int)) = true then 1 else 0) := ⟨_, rfl⟩
    have t0 : 0 ≤ t ∧ t ≤ 3 ∧ (0 < t → 0 < n) := by
      rw [et, lk]
      by_cases z : (0 : Int) < (n : Int)
      · rw [if_pos (decide_eq_true z)]
        omega
      · rw [if_neg (fun w => z (of_decide_eq_true w))]
        omega
    refine ⟨_, rfl, dr, kvR R, rfl, sh5.r, _, _, rfl, rfl, .inr ⟨_, rfl, _, _, rfl, rfl, .inl ⟨by omega, by omega⟩, t, congrArg V.int et.symm, l0, _, rfl, SqL.of (gw5.keep upd_same l0p), fun lp nlp => ?_⟩⟩
    have el : cutV [V.str "b1", .str "a", .str "c_3"] none (some t) = ((["b1", "a", "c_3"] : List Str).take t.toNat).map V.str := by
      rw [cut_take _ t0.1, List.map_take]
      rfl
    rw [el]
    have s6 := Same.new (o := .lst (((["b1", "a", "c_3"] : List Str).take t.toNat).map V.str)) nlp
    have e6 := upd_same (H := H5) (a := lp) (o := .lst (((["b1", "a", "c_3"] : List Str).take t.toNat).map V.str))
    have lpp := (rg5.free nlp).1
    have rg6 := rg5.same s6
    have sh6 := sh5.same s6
    have gw06 : Gw p H (upd H5 lp (.lst (((["b1", "a", "c_3"] : List Str).take t.toNat).map V.str))) := gw05.trans (Gw.same s6)
    generalize (upd H5 lp (.lst (((["b1", "a", "c_3"] : List Str).take t.toNat).map V.str))) = H6 at *
    refine ⟨lp, rfl, ⟨_, SqL.of e6⟩, for_list (K := K) (a := lp) (xs := ((["b1", "a", "c_3"] : List Str).take t.toNat).map V.str) (fun i σ H7 => ∃ (y5 y8 y9 y10 : Option V) (S : Tb), σ = [some (.ref p), some (.int (m : Int)), some (.ref dr), some (.ref df), some (.ref ds), y5, y6, y7, y8, y9, y10, none, none] ∧
        ShAt K H7 dr df ds R F S ∧ S.length ≤ i ∧ Rng d H7 p ∧ Gw p H H7 ∧ H7 lp = some (.lst (((["b1", "a", "c_3"] : List Str).take t.toNat).map V.str)))
      ⟨y5, none, none, none, [], rfl, sh6, Nat.le_refl _, rg6, gw06, e6⟩ (fun i σ H7 _ hP => ?_) (fun i y σ H7 hy hP => ?_) (fun σ H7 hP => ?_)⟩
    · obtain ⟨_, _, _, _, _, _, _, _, _, _, h⟩ := hP
      exact SqL.of h
    · obtain ⟨y5, y8, y9, y10, S, rfl, sh7, lS, rg7, gw7, el7⟩ := hP
      obtain ⟨nm, rfl, tpos⟩ : ∃ nm : Str, y = V.str nm ∧ 0 < t := by
        rw [List.getElem?_map] at hy
        cases z : ((["b1", "a", "c_3"] : List Str).take t.toNat)[i]? with
        | none => rw [z] at hy; cases hy
        | some nm =>
          rw [z] at hy
          refine ⟨nm, (Option.some.inj hy).symm, ?_⟩
          have := (List.getElem?_eq_some_iff.mp z).1
          rw [List.length_take] at this
          omega
      have i3 : i < 3 := by
        have := (List.getElem?_eq_some_iff.mp hy).1
        rw [List.length_map, List.length_take] at this
        omega
      have npos := t0.2.2 tpos
      -- relation
      refine ⟨sz 3, fun l1 nl1 => ⟨_, rfl, _, rfl, dr, kvR R, rfl, (Same.new nl1) _ _ sh7.r, p, d, ((kvR R).length : Int), rfl, by omega, rg7.same (Same.new nl1), ?_⟩⟩
      rintro x8 H8 ⟨v2, rfl, v20, v21⟩ gw8 rg8
      have l1p := (rg7.free nl1).1
      have sh8 := (sh7.same (Same.new (o := .lst [V.str "r", .str "s", .str "t2"]) nl1)).gw (rg7.same (Same.new nl1)) gw8
      have gw78 : Gw p H7 H8 := (Gw.new nl1).trans gw8
      have v2n : v2.toNat < n := by omega
      have v23 : v2.toNat < K3.length := by show v2.toNat < 3; omega
      have en := List.getElem?_eq_getElem v23
      generalize hrn : K3[v2.toNat] = rn at en
      have mrn : rn ∈ R.map (·.1) := by
        rw [eR]
        refine List.mem_of_getElem? (i := v2.toNat) ?_
        rw [List.getElem?_take, if_pos v2n]
        exact en
      have gn : [V.str "r", .str "s", .str "t2"][v2.toNat]? = some (V.str rn) := by
        show (K3.map V.str)[v2.toNat]? = _
        rw [List.getElem?_map, en]
        rfl
      refine ⟨l1, _, v2, .str rn, rfl, rfl, SqL.of (gw8.keep upd_same l1p), at_of (j := v2.toNat) (by omega) gn, ?_⟩
      obtain ⟨qa, cc, ec, mc⟩ := mem_val mrn
      obtain ⟨c, cols, r, erc, hc8, hn⟩ := sh8.rc _ mc
      have erc' : cc = [.ref c, .int r] := erc
      subst erc'
      have hqa8 : SqT K H8 qa [.ref c, .int r] := sh8.rt _ mc
      have hn2 := hn.2
      have hn1 := hn.1
      -- columns
      refine ⟨sz 0, fun cl ncl => ?_⟩
      have s9 := Same.new (o := .lst []) ncl
      have e9 := upd_same (H := H8) (a := cl) (o := .lst [])
      have clp := rg8.free ncl
      have rg9 := rg8.same s9
      have gw89 : Gw p H8 (upd H8 cl (.lst [])) := Gw.new ncl
      have sh9 := sh8.same s9
      generalize (upd H8 cl (.lst [])) = H9 at *
      refine ⟨_, rfl, _, rfl, dr, _, rfl, dget_n (.inl sh9.r) ec, qa, _, 0, .ref c, rfl, rfl, Tk.same s9 _ _ hqa8, at_of (j := 0) rfl rfl, c, rfl, ⟨_, Tk.same s9 _ _ hc8⟩, for_tup (K := K) (a := c) (xs := cols) (fun j σ H10 => ∃ (y10 : Option V) (cs : List V),
          σ = [some (.ref p), some (.int (m : Int)), some (.ref dr), some (.ref df), some (.ref ds), some (.str nm), y6, y7, some (.str rn), some (.ref cl), y10, none, none] ∧ H10 cl = some (.lst cs) ∧ cs.length ≤ j ∧ Gw p H8 H10 ∧ Rng d H10 p)
        ⟨y10, [], rfl, e9, Nat.le_refl _, gw89, rg9⟩ (fun j σ H10 _ hP => ?_) (fun j y σ H10 hy hP => ?_) (fun σ H10 hP => ?_)⟩
      · obtain ⟨_, _, _, _, _, gw10, rg10⟩ := hP
        exact Rng.tk (K := K) rg8 gw10 _ _ hc8
      · obtain ⟨y10, cs, rfl, ecl, lcs, gw10, rg10⟩ := hP
        have jl : j < cols.length := (List.getElem?_eq_some_iff.mp hy).1
        refine ⟨_, rfl, p, d, 2, rfl, by decide, rg10, ?_⟩
        rintro x11 H11 ⟨v3, rfl, v30, v31⟩ gw11 rg11
        have ecl11 := gw11.keep ecl clp.1
        refine ⟨rfl, _, rfl, ite2 (fun e => ?_) (fun e => ?_)⟩
        · refine ⟨_, rfl, .inl ⟨rfl, _, .inl (.inl ecl11)⟩, _, rfl, _, rfl, cl, cs, rfl, .inl (SqL.of ecl11), _, _, rfl, rfl, p, d, (cs.length : Int) + 1, rfl, by omega, rg11, ?_⟩
          rintro x12 H12 ⟨v4, rfl, v40, v41⟩ gw12 rg12
          have ecl12 := gw12.keep ecl11 clp.1
          refine ⟨_, rfl, cl, cs, v4, y, rfl, rfl, ecl12, small (m := 1000) (by omega) (by decide), v40, by omega, _, _, rfl, upd_same, ?_, Gw.over ((gw10.trans gw11).trans gw12) ncl, rg12.upd clp⟩
          rw [List.length_append, List.length_append, List.length_take, List.length_drop]
          show min v4.toNat cs.length + 1 + (cs.length - v4.toNat) ≤ j + 1
          omega
        · exact ⟨_, cs, rfl, ecl11, by omega, gw10.trans gw11, rg11⟩
      · obtain ⟨y10, cs, rfl, ecl, lcs, gw10, rg10⟩ := hP
        have sh10 := sh8.gw rg8 gw10
        have tk10 := Rng.tk (K := K) rg8 gw10
        refine ⟨fun σ H' => ∃ (cl : Addr) (cs : List V), σ = [some (.ref p), some (.int (m : Int)), some (.ref dr), some (.ref df), some (.ref ds), some (.str nm), y6, y7, some (.str rn), some (.ref cl), y10, none, none] ∧ H' cl = some (.lst cs) ∧ Gw p H8 H' ∧ Rng d H' p, ?_, ?_⟩
        · refine ⟨_, rfl, cl, cs, rfl, .inl (SqL.of ecl), rfl, _, rfl, ite2 (fun e => ?_) (fun e => ?_)⟩
          · refine ⟨_, rfl, _, rfl, dr, _, rfl, dget_n (.inl sh10.r) ec, qa, _, 0, .ref c, rfl, rfl, tk10 _ _ hqa8, at_of (j := 0) rfl rfl, c, cols, 0, cols[0], rfl, rfl, tk10 _ _ hc8, at_of (j := 0) rfl (List.getElem?_eq_getElem hn1), sz 1, fun cl2 ncl2 => ?_⟩
            exact ⟨cl2, _, rfl, upd_same, gw10.trans (Gw.new ncl2), rg10.same (Same.new ncl2)⟩
          · exact ⟨cl, cs, rfl, ecl, gw10, rg10⟩
        clear ecl lcs sh10 tk10 gw10 rg10 e9 rg9 gw89 sh9 s9
        rintro σ H11 ⟨cl2, cs2, rfl, ecl, gw11, rg11⟩
        refine ⟨_, rfl, _, rfl, cl2, cs2, rfl, .inl ⟨SqL.of ecl, fun tl ntl => ?_⟩⟩
        have s12 := Same.new (o := .tup cs2) ntl
        refine ⟨_, rfl, sz 2, fun l2 nl2 => ⟨_, rfl, p, d, 2, rfl, by decide, (rg11.same s12).same (Same.new nl2), ?_⟩⟩
        rintro x13 H13 ⟨v5, rfl, v50, v51⟩ gw13 rg13
        have l2p := ((rg11.same s12).free nl2).1
        obtain ⟨r13, hr13, mr13⟩ := at_in (xs := [V.int 3, .int 16]) v50 v51
        obtain ⟨lim, rfl, lim0, lim1⟩ : ∃ lim : Int, r13 = V.int lim ∧ 0 < lim ∧ lim ≤ 16 := by
          simp only [List.mem_cons, List.not_mem_nil, or_false] at mr13
          rcases mr13 with rfl | rfl
          · exact ⟨3, rfl, by decide, by decide⟩
          · exact ⟨16, rfl, by decide, by decide⟩
        have gw1113 : Gw p H11 H13 := ((Gw.same s12).trans (Gw.new nl2)).trans gw13
        refine ⟨l2, _, v5, .int lim, rfl, rfl, SqL.of (gw13.keep upd_same l2p), hr13, p, d, lim, rfl, lim0, rg13, ?_⟩
        rintro x14 H14 ⟨v6, rfl, v60, v61⟩ gw14 rg14
        refine ⟨_, _, rfl, rfl, _, rfl, p, d, 8, rfl, by decide, rg14, ?_⟩
        rintro x15 H15 ⟨v7, rfl, v70, v71⟩ gw15 rg15
        refine ⟨_, _, rfl, rfl, sz 4, fun t3 nt3 => ?_⟩
        have s16 := Same.new (o := .tup [V.str rn, .ref tl, .int (1 + v6), .int (1 + v7)]) nt3
        have e16 := upd_same (H := H15) (a := t3) (o := .tup [V.str rn, .ref tl, .int (1 + v6), .int (1 + v7)])
        have gw816 : Gw p H8 (upd H15 t3 (.tup [V.str rn, .ref tl, .int (1 + v6), .int (1 + v7)])) := (((gw11.trans gw1113).trans gw14).trans gw15).trans (Gw.same s16)
        have rg16 := rg15.same s16
        have sh16 := sh8.gw rg8 gw816
        have gw016 : Gw p H (upd H15 t3 (.tup [V.str rn, .ref tl, .int (1 + v6), .int (1 + v7)])) := (gw7.trans gw78).trans gw816
        have el16 := gw816.keep (gw78.keep el7 lpp) lpp
        generalize (upd H15 t3 (.tup [V.str rn, .ref tl, .int (1 + v6), .int (1 + v7)])) = H16 at *
        have lkS : (kvR S).length ≤ 1000 := by
          unfold kvR
          rw [kvG_len]
          omega
        refine ⟨_, rfl, _, rfl, ds, _, rfl, DPut.k (k := Sum.inr nm) sh16.s (small lkS (by decide)), ?_⟩
        have dsp : ds ≠ p ∧ ds ≠ d := by
          have h1 := sh16.s
          obtain ⟨nn, k, hp, _, hd⟩ := rg16
          exact ⟨(fun w => by rw [w, hp] at h1; cases h1), (fun w => by rw [w, hd] at h1; cases h1)⟩
        have dsl : lp ≠ ds := fun w => by have h1 := sh16.s; rw [← w, el16] at h1; cases h1
        refine ⟨_, _, _, _, _, rfl, sh16.stru (SqT.of e16) (by omega) (by omega), ?_, rg16.upd dsp, Gw.over gw016 nsH, by rw [upd_ne dsl]; exact el16⟩
        have := putG_len S nm (t3, [V.str rn, .ref tl, .int (1 + v6), .int (1 + v7)])
        omega
    · obtain ⟨y5, y8, y9, y10, S, rfl, sh7, lS, rg7, gw7, el7⟩ := hP
      refine ⟨_, rfl, _, rfl, _, rfl, sz 3, fun ls nls => ?_⟩
      have l3 : S.length ≤ 3 := by
        rw [List.length_map, List.length_take] at lS
        have := t0.2.1
        omega
      exact q _ _ ⟨ls, dr, df, ds, R, S, F, rfl, upd_same, sh7.same (Same.new nls), by omega, lF, l3⟩ (gw7.trans (Gw.new nls)) (rg7.same (Same.new nls))
end
end K1
namespace K1
open PySem PySem.Spec PyProof.Rows L2 Ow Tlz
theorem ix_list_K {X : Cx} {K : PySem.W.Frag} (e : X.K = K) : IxR X (rIxL K) := by
  subst e
  exact ix_list
theorem op_catA_K {X : Cx} {K : PySem.W.Frag} (e : X.K = K) : OpR X (binaryOp .Add) (rCatA K) := by
  subst e
  exact op_catA
def contOf (R : Tb) (n : Str) : List V := match valG R n with
  | some (_, c) => c
  | none => []
def relsOf (is : List It) : List (Str × List V) := is.filterMap fun i => match i with
  | .rel n c => some (n, c)
  | _ => none
def strsOf (is : List It) : List (Str × List V) := is.filterMap fun i => match i with
  | .str n c => some (n, c)
  | _ => none
def irefs (its : List (Addr × It)) : List V := its.map fun t => .ref t.1
theorem irefs_snoc {its : List (Addr × It)} {t : Addr × It} : irefs (its ++ [t]) = irefs its ++ [.ref t.1] := by
  unfold irefs
  rw [List.map_append]
  rfl
theorem irefs_len (its : List (Addr × It)) : (irefs its).length = its.length := by unfold irefs; rw [List.length_map]
def ItsOk (K : PySem.W.Frag) (H : Hp) (its : List (Addr × It)) : Prop := ∀ t ∈ its, ItAt K H t.1 t.2
theorem ItsOk.tk {K : PySem.W.Frag} {H H' : Hp} {its : List (Addr × It)} (t : Tk K H H') (h : ItsOk K H its) : ItsOk K H' its := fun u m => (h u m).tk t
theorem ItsOk.snoc {K : PySem.W.Frag} {H : Hp} {its : List (Addr × It)} {t : Addr × It} (h : ItsOk K H its) (ht : ItAt K H t.1 t.2) : ItsOk K H (its ++ [t]) := by
  intro u m
  rcases List.mem_append.mp m with m | m
  · exact h u m
  · rw [List.mem_singleton.mp m]
    exact ht
theorem ItsOk.app {K : PySem.W.Frag} {H : Hp} {its jts : List (Addr × It)} (h : ItsOk K H its) (g : ItsOk K H jts) : ItsOk K H (its ++ jts) := by
  intro u m
  rcases List.mem_append.mp m with m | m
  · exact h u m
  · exact g u m
def spItems (K : PySem.W.Frag) : Sp := fun vs H Q _ => ∃ (ls dr df ds : Addr) (R S : Tb) (F : Fb), vs = [.ref ls] ∧ SqL K H ls [.ref dr, .ref df, .ref ds] ∧ ShAt K H dr df ds R F S ∧ R.length ≤ 10 ∧ F.length ≤ 3 ∧ S.length ≤ 10 ∧
  ∀ (its : List (Addr × It)) (p : Addr) (ys zs : List Str) H', Same H H' → H p = none → H' p = some (.lst (irefs its)) → ItsOk K H' its → its.length ≤ 100 → ys.Perm (R.map (·.1)) → sortedS ys = true → zs.Perm (S.map (·.1)) → sortedS zs = true →
    relsOf (its.map (·.2)) = ys.map (fun n => (n, contOf R n)) → strsOf (its.map (·.2)) = zs.map (fun n => (n, contOf S n)) → Q (.ref p) H'
abbrev s_law_shelf_items : Stmt := topS 30
abbrev N_law_shelf_items : List Str := ["shelf", "name", "items", "row"]
theorem sc_law_shelf_items : FnScope N_law_shelf_items ["shelf"] (defScope s_law_shelf_items) := ⟨rfl, rfl, rfl, by decide +kernel, rfl, by decide +kernel, by decide +kernel⟩
theorem kv_names (R : Tb) : (kvR R).map (fun kv => kV kv.1) = (R.map (·.1)).map V.str := by
  unfold kvR kvG
  rw [List.map_map, List.map_map]
  rfl
theorem kvF_names (F : Fb) : (kvF F).map (fun kv => kV kv.1) = (F.map (·.1)).map V.str := by
  unfold kvF kvG
  rw [List.map_map, List.map_map]
  rfl
theorem cont_eq {R : Tb} {n : Str} {q : Addr} {c : List V} (e : valG R n = some (q, c)) : contOf R n = c := by
  unfold contOf
  rw [e]
theorem memF_val {F : Fb} {n : Str} (h : n ∈ F.map (·.1)) : ∃ q c, valG F n = some (q, c) ∧ (n, q, c) ∈ F := by
  cases e : valG F n with
  | none =>
    obtain ⟨x, mx, ex⟩ := List.mem_map.mp h
    exact absurd ex (valG_none e x mx)
  | some b => exact ⟨b.1, b.2, rfl, valG_mem e⟩
theorem strs_get {ys : List Str} {i : Nat} {y : V} (h : (ys.map V.str)[i]? = some y) : ∃ n, ys[i]? = some n ∧ y = .str n := by
  rw [List.getElem?_map] at h
  cases e : ys[i]? with
  | none => rw [e] at h; cases h
  | some t => rw [e] at h; exact ⟨t, rfl, (Option.some.inj h).symm⟩
theorem take_snoc' {α : Type} {xs : List α} {i : Nat} {x : α} (h : xs[i]? = some x) : xs.take (i + 1) = xs.take i ++ [x] := by
  rw [List.take_add_one, h]
  rfl
theorem dgetF {H : Hp} {d : Addr} {F : Fb} {n : Str} {q : Addr} {c : List (Addr × List V)} (h : Rd H d (.dK (kvF F))) (e : valG F n = some (q, c)) : DGet H d (.str n) (some (.ref q)) := by
  refine .inl ⟨kvF F, Sum.inr n, h, rfl, ?_⟩
  rw [kvF_val, e]
  rfl
section
variable {P : Program} {w : World} {K : PySem.W.Frag} {mg : Str → Option Value} {base : Heap} {C : Addr}
theorem ok_items {f : Addr} {fd : FuncData} (F0 : Fun K "_law_shelf_items" "_law_shelf_items" s_law_shelf_items f fd) (T : Bl mg) :
    FnOk P w K mg base CX0 1 f fd ["shelf"] (spItems K) := by
  refine F0.ok sc_law_shelf_items (fun vs H Q E h => ?_) (fun cdv A outer s H vs Q E hr h => ?_)
  · obtain ⟨ls, dr, df, ds, R, S, F, rfl, _⟩ := h
    rfl
  · obtain ⟨ls, dr, df, ds, R, S, F, rfl, hls, sh, lR, lF, lS, q⟩ := h
    have hu := hu_of hr
    refine ⟨_, (pss_cons (ps_setLc (i := 2) (own := [("name", 1)]) (g := gName 1) rfl sc_law_shelf_items.nd rfl rfl (sw_true rfl rfl rfl (by decide +kernel)) (pi_list (pe_callB cr_sortedS (by rfl) T.sorted (by decide +kernel) (pa_cons (pe_callTy (call_listD rfl) (by rfl) T.list (by decide +kernel) (pa_cons (pe_ix ix_list (pv 0) pe_int (fun _ _ => rfl)) pa_nil)) pa_nil))) (blkOk_by (own := [("name", 1)]) (N := N_law_shelf_items) (sc := defScope s_law_shelf_items) (by decide +kernel)) (fun _ _ _ _ _ => pg_name (i := 1) sc_law_shelf_items.nd rfl (Or.inl rfl)) (fun _ _ _ _ _ => pts_nil) (fun _ _ _ _ _ => (pe_op (op_catA_K (K := K) rfl) (pe_tup (pa_cons pe_str (pa_cons (pv 1) pa_nil))) (pe_dget hu (pe_ix (ix_list_K (K := K) rfl) (pv 0) pe_int (fun _ _ => rfl)) (pv 1) (fun _ _ => rfl)))))
      (pss_cons (ps_for PassesOwn.never rfl (pi_list (pe_callB cr_sortedS (by rfl) T.sorted (by decide +kernel) (pa_cons (pe_callTy (call_listD rfl) (by rfl) T.list (by decide +kernel) (pa_cons (pe_ix ix_list (pv 0) pe_int (fun _ _ => rfl)) pa_nil)) pa_nil))) (pg_name (i := 1) sc_law_shelf_items.nd rfl (.inr rfl)) (pss_one (ps_set (i := 2) sc_law_shelf_items.nd rfl (.inl rfl) (pe_op op_cat (pv 2) (pe_lc (own := [("row", 3)]) (g := gName 3) rfl sc_law_shelf_items.nd (pi_list (pe_dget hu (pe_ix ix_list (pv 0) pe_int (fun _ _ => rfl)) (pv 1) (fun _ _ => rfl))) (blkOk_by (own := [("row", 3)]) (N := N_law_shelf_items) (sc := defScope s_law_shelf_items) (by decide +kernel)) (fun _ _ _ _ _ => pg_name (i := 3) sc_law_shelf_items.nd rfl (Or.inl rfl)) (fun _ _ _ _ _ => pts_nil) (fun _ _ _ _ _ => (pe_tup (pa_cons pe_str (pa_cons (pv 1) (pa_cons (pv 3) pa_nil))))))))))
      (pss_one (ps_ret (pe_op op_cat (pv 2) (pe_lc (own := [("name", 1)]) (g := gName 1) rfl sc_law_shelf_items.nd (pi_list (pe_callB cr_sortedS (by rfl) T.sorted (by decide +kernel) (pa_cons (pe_callTy (call_listD rfl) (by rfl) T.list (by decide +kernel) (pa_cons (pe_ix ix_list (pv 0) pe_int (fun _ _ => rfl)) pa_nil)) pa_nil))) (blkOk_by (own := [("name", 1)]) (N := N_law_shelf_items) (sc := defScope s_law_shelf_items) (by decide +kernel)) (fun _ _ _ _ _ => pg_name (i := 1) sc_law_shelf_items.nd rfl (Or.inl rfl)) (fun _ _ _ _ _ => pts_nil) (fun _ _ _ _ _ => (pe_op (op_catA_K (K := K) rfl) (pe_tup (pa_cons pe_str (pa_cons (pv 1) pa_nil))) (pe_dget hu (pe_ix (ix_list_K (K := K) rfl) (pv 0) pe_int (fun _ _ => rfl)) (pv 1) (fun _ _ => rfl)))))))))), ?_⟩
    -- the relations
    refine ⟨_, rfl, ls, _, 0, .ref dr, rfl, rfl, hls, at_of (j := 0) rfl rfl, dr, kvR R, rfl, .inl sh.r, fun l0 nl0 => ?_⟩
    rw [kv_names]
    have s1 := Same.new (o := .lst ((R.map (·.1)).map V.str)) nl0
    have e1 := upd_same (H := H) (a := l0) (o := .lst ((R.map (·.1)).map V.str))
    generalize (upd H l0 (.lst ((R.map (·.1)).map V.str))) = H1 at *
    refine ⟨l0, R.map (·.1), rfl, SqL.of e1, by rw [List.length_map]; omega, fun ys yp py sy nyp => ?_⟩
    have s2 := s1.trans (Same.new (o := .lst (ys.map V.str)) nyp)
    have e2 := upd_same (H := H1) (a := yp) (o := .lst (ys.map V.str))
    generalize (upd H1 yp (.lst (ys.map V.str))) = H2 at *
    have lys : ys.length ≤ 10 := by rw [py.length_eq, List.length_map]; exact lR
    refine ⟨yp, rfl, ⟨_, SqL.of e2⟩, fun D nD => lc_list (K := K) (a := yp) (xs := ys.map V.str) (fun i H4 => ∃ its : List (Addr × It), Same H2 H4 ∧ H4 D = some (.lst (irefs its)) ∧ ItsOk K H4 its ∧ its.length = i ∧
        relsOf (its.map (·.2)) = (ys.take i).map (fun n => (n, contOf R n)) ∧ strsOf (its.map (·.2)) = [])
      ⟨[], Same.new nD, upd_same, (fun _ m => nomatch m), rfl, rfl, rfl⟩ (fun i H4 _ hP => ?_) (fun i y H4 hy hP => ?_) (fun H4 hP => ?_)⟩
    · obtain ⟨_, s4, _⟩ := hP
      exact SqL.of (s4 _ _ e2)
    · obtain ⟨its, s4, eD, io, li, er, es⟩ := hP
      obtain ⟨n, en, rfl⟩ := strs_get hy
      have il : i < ys.length := (List.getElem?_eq_some_iff.mp en).1
      have mn : n ∈ R.map (·.1) := py.mem_iff.mp (List.mem_of_getElem? en)
      obtain ⟨qa, c, ec, m⟩ := mem_val mn
      have sh4 := sh.same (s2.trans s4)
      obtain ⟨cc, cols, r, erc, _, _⟩ := sh.rc _ m
      have erc' : c = [.ref cc, .int r] := erc
      subst erc'
      refine ⟨rfl, ?_⟩
      refine ⟨_, rfl, sz 2, fun t nt => ?_⟩
      have s5 := Same.new (o := .tup [V.str "relation", .str n]) nt
      have sh5 := sh4.same s5
      refine ⟨_, rfl, ls, _, 0, .ref dr, rfl, rfl, ((s2.trans s4).trans s5).seq hls, at_of (j := 0) rfl rfl, _, rfl, dr, _, rfl, dget_n (.inl sh5.r) ec, t, qa, _, _, rfl, rfl, SqT.of upd_same, sh5.rt _ m, sz 4, (fun z => by cases z), (fun _ z => by cases z), fun _ _ u nu => ?_⟩
      have s6 := s5.trans (Same.new (o := .tup ([V.str "relation", .str n] ++ [V.ref cc, .int r])) nu)
      have e6 := upd_same (H := upd H4 t (.tup [V.str "relation", .str n])) (a := u) (o := .tup ([V.str "relation", .str n] ++ [V.ref cc, .int r]))
      generalize (upd (upd H4 t (.tup [V.str "relation", .str n])) u (.tup ([V.str "relation", .str n] ++ [V.ref cc, .int r]))) = H6 at *
      have eD6 := s6 _ _ eD
      have tD : Tk K H6 (upd H6 D (.lst (irefs its ++ [.ref u]))) := Tk.put eD6
      refine ⟨irefs its, eD6, by rw [irefs_len]; exact small (m := 1000) (by omega) (by decide), its ++ [(u, .rel n [.ref cc, .int r])], Same.over (s4.trans s6) nD, by rw [upd_same, irefs_snoc], ((io.tk (Tk.same s6)).tk tD).snoc (t := (u, It.rel n [V.ref cc, .int r])) (tD _ _ (SqT.of e6)), by rw [List.length_append, li]; rfl, ?_, ?_⟩
      · rw [List.map_append, take_snoc' en, List.map_append, ← er]
        unfold relsOf
        rw [List.filterMap_append]
        show _ ++ [(n, [V.ref cc, V.int r])] = _ ++ [(n, contOf R n)]
        rw [cont_eq ec]
      · rw [List.map_append]
        unfold strsOf at es ⊢
        rw [List.filterMap_append, es]
        rfl
    obtain ⟨its, s4, eD, io, li, er, es⟩ := hP
    rw [List.length_map] at li
    rw [List.length_map, List.take_length] at er
    have s04 := s2.trans s4
    have sh4 := sh.same s04
    have nDH : H D = none := s2.free nD
    clear e2 s1 e1 nl0
    -- the facts
    refine ⟨_, rfl, ls, _, 1, .ref df, rfl, rfl, s04.seq hls, at_of (j := 1) rfl rfl, df, kvF F, rfl, .inl sh4.f, fun l1 nl1 => ?_⟩
    rw [kvF_names]
    have s5 := s04.trans (Same.new (o := .lst ((F.map (·.1)).map V.str)) nl1)
    have e5 := upd_same (H := H4) (a := l1) (o := .lst ((F.map (·.1)).map V.str))
    have eD5 := (Same.new (o := .lst ((F.map (·.1)).map V.str)) nl1) _ _ eD
    have io5 := io.tk (Tk.same (K := K) (Same.new (o := .lst ((F.map (·.1)).map V.str)) nl1))
    generalize (upd H4 l1 (.lst ((F.map (·.1)).map V.str))) = H5 at *
    refine ⟨l1, F.map (·.1), rfl, SqL.of e5, by rw [List.length_map]; omega, fun fs fp pf sf nfp => ?_⟩
    have s6 := s5.trans (Same.new (o := .lst (fs.map V.str)) nfp)
    have e6 := upd_same (H := H5) (a := fp) (o := .lst (fs.map V.str))
    have eD6 := (Same.new (o := .lst (fs.map V.str)) nfp) _ _ eD5
    have io6 := io5.tk (Tk.same (K := K) (Same.new (o := .lst (fs.map V.str)) nfp))
    generalize (upd H5 fp (.lst (fs.map V.str))) = H6 at *
    have lfs : fs.length ≤ 3 := by rw [pf.length_eq, List.length_map]; exact lF
    clear sh4 s04 e5 eD5 io5 s5
    refine ⟨fp, rfl, ⟨_, SqL.of e6⟩, for_list (K := K) (a := fp) (xs := fs.map V.str) (fun i σ H7 => ∃ (D : Addr) (y1 : Option V) (its : List (Addr × It)), σ = [some (.ref ls), y1, some (.ref D), none] ∧ Same H6 H7 ∧ H D = none ∧ H7 D = some (.lst (irefs its)) ∧ ItsOk K H7 its ∧ its.length ≤ 10 + 20 * i ∧
        relsOf (its.map (·.2)) = ys.map (fun n => (n, contOf R n)) ∧ strsOf (its.map (·.2)) = [])
      ⟨D, none, its, rfl, Same.refl _, nDH, eD6, io6, by omega, er, es⟩ (fun i σ H7 _ hP => ?_) (fun i y σ H7 hy hP => ?_) (fun σ H7 hP => ?_)⟩
    · obtain ⟨_, _, _, _, s7, _⟩ := hP
      exact SqL.of (s7 _ _ e6)
    · obtain ⟨D, y1, its, rfl, s7, nDH, eD, io, li, er, es⟩ := hP
      obtain ⟨n, en, rfl⟩ := strs_get hy
      have il : i < fs.length := (List.getElem?_eq_some_iff.mp en).1
      have mn : n ∈ F.map (·.1) := pf.mem_iff.mp (List.mem_of_getElem? en)
      obtain ⟨qa, rs, ec, m⟩ := memF_val mn
      have s07 := s6.trans s7
      have sh7 := sh.same s07
      obtain ⟨hqa, ro, lrs⟩ := sh7.ft _ m
      have hqa' : H7 qa = some (.lst (rrefs rs)) := hqa
      have ro' : RowsOk K H7 rs := ro
      have lrs' : rs.length ≤ 20 := lrs
      refine ⟨_, rfl, _, rfl, ls, _, 1, .ref df, rfl, rfl, s07.seq hls, at_of (j := 1) rfl rfl, _, rfl, df, _, rfl, dgetF (.inl sh7.f) ec, qa, rfl, ⟨_, SqL.of hqa'⟩, fun E2 nE => lc_list (K := K) (a := qa) (xs := rrefs rs) (fun j H8 => ∃ jts : List (Addr × It), Same H7 H8 ∧ H8 E2 = some (.lst (irefs jts)) ∧ ItsOk K H8 jts ∧ jts.length = j ∧ relsOf (jts.map (·.2)) = [] ∧ strsOf (jts.map (·.2)) = [])
        ⟨[], Same.new nE, upd_same, (fun _ m => nomatch m), rfl, rfl, rfl⟩ (fun j H8 _ hP => ?_) (fun j y H8 hy hP => ?_) (fun H8 hP => ?_)⟩
      · obtain ⟨_, s8, _⟩ := hP
        exact SqL.of (s8 _ _ hqa')
      · obtain ⟨jts, s8, eE, jo, lj, jr, js⟩ := hP
        obtain ⟨t, et, rfl⟩ := rrefs_get hy
        obtain ⟨ht, st, lt⟩ := (ro'.same s8) t (List.mem_of_getElem? et)
        have jl : j < rs.length := (List.getElem?_eq_some_iff.mp et).1
        refine ⟨rfl, ?_⟩
        refine ⟨_, rfl, _, rfl, sz 3, fun u nu => ?_⟩
        have s9 := Same.new (o := .tup [V.str "fact", .str n, .ref t.1]) nu
        have e9 := upd_same (H := H8) (a := u) (o := .tup [V.str "fact", .str n, .ref t.1])
        generalize (upd H8 u (.tup [V.str "fact", .str n, .ref t.1])) = H9 at *
        have eE9 := s9 _ _ eE
        have tE : Tk K H9 (upd H9 E2 (.lst (irefs jts ++ [.ref u]))) := Tk.put eE9
        refine ⟨irefs jts, eE9, by rw [irefs_len]; exact small (m := 1000) (by omega) (by decide), jts ++ [(u, .fact n t.1 t.2)], Same.over (s8.trans s9) nE, by rw [upd_same, irefs_snoc], ((jo.tk (Tk.same s9)).tk tE).snoc (t := (u, It.fact n t.1 t.2)) ⟨tE _ _ (SqT.of e9), tE _ _ (Tk.same s9 _ _ ht), st, lt⟩, by rw [List.length_append, lj]; rfl, ?_, ?_⟩
        · rw [List.map_append]
          unfold relsOf at jr ⊢
          rw [List.filterMap_append, jr]
          rfl
        · rw [List.map_append]
          unfold strsOf at js ⊢
          rw [List.filterMap_append, js]
          rfl
      · obtain ⟨jts, s8, eE, jo, lj, jr, js⟩ := hP
        rw [rrefs_len] at lj
        refine ⟨D, E2, _, _, rfl, rfl, s8 _ _ eD, eE, ?_, fun u nu => ?_⟩
        · rw [irefs_len, irefs_len]
          exact sz _ (by omega)
        have s9 := Same.new (o := .lst (irefs its ++ irefs jts)) nu
        refine ⟨u, some (.str n), its ++ jts, rfl, s7.trans (s8.trans s9), (s07.trans s8).free nu, ?_, (((io.tk (Tk.same s8)).app jo).tk (Tk.same s9)), by rw [List.length_append]; omega, ?_, ?_⟩
        · rw [upd_same]
          unfold irefs
          rw [List.map_append]
        · rw [List.map_append]
          unfold relsOf at jr er ⊢
          rw [List.filterMap_append, jr, er, List.append_nil]
        · rw [List.map_append]
          unfold strsOf at js es ⊢
          rw [List.filterMap_append, js, es]
          rfl
    clear er es io li eD6 io6 nDH
    obtain ⟨D, y1, its, rfl, s7, nDH, eD, io, li, er, es⟩ := hP
    have s07 := s6.trans s7
    have sh7 := sh.same s07
    -- the structures
    refine ⟨_, rfl, _, rfl, ls, _, 2, .ref ds, rfl, rfl, s07.seq hls, at_of (j := 2) rfl rfl, ds, kvR S, rfl, .inl sh7.s, fun l2 nl2 => ?_⟩
    rw [kv_names]
    have s8 := s07.trans (Same.new (o := .lst ((S.map (·.1)).map V.str)) nl2)
    have e8 := upd_same (H := H7) (a := l2) (o := .lst ((S.map (·.1)).map V.str))
    have eD8 := (Same.new (o := .lst ((S.map (·.1)).map V.str)) nl2) _ _ eD
    have io8 := io.tk (Tk.same (K := K) (Same.new (o := .lst ((S.map (·.1)).map V.str)) nl2))
    generalize (upd H7 l2 (.lst ((S.map (·.1)).map V.str))) = H8 at *
    refine ⟨l2, S.map (·.1), rfl, SqL.of e8, by rw [List.length_map]; omega, fun zs zp pz sz' nzp => ?_⟩
    have s9 := s8.trans (Same.new (o := .lst (zs.map V.str)) nzp)
    have e9 := upd_same (H := H8) (a := zp) (o := .lst (zs.map V.str))
    have eD9 := (Same.new (o := .lst (zs.map V.str)) nzp) _ _ eD8
    have io9 := io8.tk (Tk.same (K := K) (Same.new (o := .lst (zs.map V.str)) nzp))
    generalize (upd H8 zp (.lst (zs.map V.str))) = H9 at *
    have lzs : zs.length ≤ 10 := by rw [pz.length_eq, List.length_map]; exact lS
    refine ⟨zp, rfl, ⟨_, SqL.of e9⟩, fun E2 nE => lc_list (K := K) (a := zp) (xs := zs.map V.str) (fun i H4 => ∃ jts : List (Addr × It), Same H9 H4 ∧ H4 E2 = some (.lst (irefs jts)) ∧ ItsOk K H4 jts ∧ jts.length = i ∧
        relsOf (jts.map (·.2)) = [] ∧ strsOf (jts.map (·.2)) = (zs.take i).map (fun n => (n, contOf S n)))
      ⟨[], Same.new nE, upd_same, (fun _ m => nomatch m), rfl, rfl, rfl⟩ (fun i H4 _ hP => ?_) (fun i y H4 hy hP => ?_) (fun H4 hP => ?_)⟩
    · obtain ⟨_, s4, _⟩ := hP
      exact SqL.of (s4 _ _ e9)
    · obtain ⟨jts, s4, eE, jo, lj, jr, js⟩ := hP
      obtain ⟨n, en, rfl⟩ := strs_get hy
      have il : i < zs.length := (List.getElem?_eq_some_iff.mp en).1
      have mn : n ∈ S.map (·.1) := pz.mem_iff.mp (List.mem_of_getElem? en)
      obtain ⟨qa, c, ec, m⟩ := mem_val mn
      have sh4 := sh.same (s9.trans s4)
      obtain ⟨u1, v1, b1, t1, erc, _, _⟩ := sh.sc _ m
      have erc' : c = [u1, v1, .int b1, .int t1] := erc
      subst erc'
      refine ⟨rfl, ?_⟩
      refine ⟨_, rfl, sz 2, fun t nt => ?_⟩
      have s5 := Same.new (o := .tup [V.str "structure", .str n]) nt
      have sh5 := sh4.same s5
      refine ⟨_, rfl, ls, _, 2, .ref ds, rfl, rfl, ((s9.trans s4).trans s5).seq hls, at_of (j := 2) rfl rfl, _, rfl, ds, _, rfl, dget_n (.inl sh5.s) ec, t, qa, _, _, rfl, rfl, SqT.of upd_same, sh5.st _ m, sz 6, (fun z => by cases z), (fun _ z => by cases z), fun _ _ u nu => ?_⟩
      have s6 := s5.trans (Same.new (o := .tup ([V.str "structure", .str n] ++ [u1, v1, .int b1, .int t1])) nu)
      have e6 := upd_same (H := upd H4 t (.tup [V.str "structure", .str n])) (a := u) (o := .tup ([V.str "structure", .str n] ++ [u1, v1, .int b1, .int t1]))
      generalize (upd (upd H4 t (.tup [V.str "structure", .str n])) u (.tup ([V.str "structure", .str n] ++ [u1, v1, .int b1, .int t1]))) = H6 at *
      have eE6 := s6 _ _ eE
      have tE : Tk K H6 (upd H6 E2 (.lst (irefs jts ++ [.ref u]))) := Tk.put eE6
      refine ⟨irefs jts, eE6, by rw [irefs_len]; exact small (m := 1000) (by omega) (by decide), jts ++ [(u, .str n [u1, v1, .int b1, .int t1])], Same.over (s4.trans s6) nE, by rw [upd_same, irefs_snoc], ((jo.tk (Tk.same s6)).tk tE).snoc (t := (u, It.str n [u1, v1, .int b1, .int t1])) (tE _ _ (SqT.of e6)), by rw [List.length_append, lj]; rfl, ?_, ?_⟩
      · rw [List.map_append]
        unfold relsOf at jr ⊢
        rw [List.filterMap_append, jr]
        rfl
      · rw [List.map_append, take_snoc' en, List.map_append, ← js]
        unfold strsOf
        rw [List.filterMap_append]
        show _ ++ [(n, [u1, v1, V.int b1, V.int t1])] = _ ++ [(n, contOf S n)]
        rw [cont_eq ec]
    · obtain ⟨jts, s4, eE, jo, lj, jr, js⟩ := hP
      rw [List.length_map] at lj
      rw [List.length_map, List.take_length] at js
      rw [List.length_map] at li
      refine ⟨D, E2, _, _, rfl, rfl, s4 _ _ eD9, eE, ?_, fun u nu => ?_⟩
      · rw [irefs_len, irefs_len]
        exact sz _ (by omega)
      have s5 := Same.new (o := .lst (irefs its ++ irefs jts)) nu
      refine q (its ++ jts) u ys zs _ ((s9.trans s4).trans s5) ((s9.trans s4).free nu) ?_ (((io9.tk (Tk.same s4)).app jo).tk (Tk.same s5)) (by rw [List.length_append]; omega) py sy pz sz' ?_ ?_
      · rw [upd_same]
        unfold irefs
        rw [List.map_append]
      · rw [List.map_append]
        unfold relsOf at jr er ⊢
        rw [List.filterMap_append, jr, er, List.append_nil]
      · rw [List.map_append]
        unfold strsOf at js es ⊢
        rw [List.filterMap_append, js, es]
        rfl
end
end K1
namespace K1
open PySem PySem.Spec PyProof.Rows L2 Ow
abbrev s_law_is_integer : Stmt := topS 18
abbrev N_law_is_integer : List Str := ["actual"]
theorem sc_law_is_integer : FnScope N_law_is_integer ["actual"] (defScope s_law_is_integer) := ⟨rfl, rfl, rfl, by decide +kernel, rfl, by decide +kernel, by decide +kernel⟩
abbrev s_law_same : Stmt := topS 19
abbrev N_law_same : List Str := ["actual", "expected", "k"]
theorem sc_law_same : FnScope N_law_same ["actual", "expected"] (defScope s_law_same) := ⟨rfl, rfl, rfl, by decide +kernel, rfl, by decide +kernel, by decide +kernel⟩
/-! data of numbers, None and lists -/
mutual
def ist : PyData → Bool
  | .int _ => true
  | .none => true
  | .list xs => decide (xs.length ≤ 1000) && ists xs
  | _ => false
def ists : List PyData → Bool
  | [] => true
  | x :: xs => ist x && ists xs
end
theorem ists_at : ∀ {xs : List PyData}, ists xs = true → ∀ {i : Nat} {d : PyData}, xs[i]? = some d → ist d = true
  | [], _, i, d, h => by simp at h
  | x :: xs, h, i, d, e => by
    rw [ists, Bool.and_eq_true] at h
    cases i with
    | zero =>
      have z : x = d := Option.some.inj e
      rw [← z]; exact h.1
    | succ i => exact ists_at h.2 (i := i) e
theorem ists_all : ∀ {xs : List PyData}, (∀ x ∈ xs, ist x = true) → ists xs = true
  | [], _ => by rw [ists]
  | x :: xs, h => by
    rw [ists, h x List.mem_cons_self, ists_all fun y m => h y (List.mem_cons_of_mem _ m)]
    rfl
mutual
theorem Dp.sm {K : PySem.W.Frag} {H H' : Hp} (t : Same H H') : ∀ (d : PyData) (v : V), Dp K H v d → Dp K H' v d
  | .none, _, .non => .non
  | .bool b, _, .bl _ => .bl b
  | .int i, _, .int _ => .int i
  | .str x, _, .str _ => .str x
  | .list xs, _, .lst s a => .lst (t.seq s) (DpAll.sm t xs _ a)
  | .tuple xs, _, .tup s a => .tup (Tk.same t _ _ s) (DpAll.sm t xs _ a)
theorem DpAll.sm {K : PySem.W.Frag} {H H' : Hp} (t : Same H H') : ∀ (ds : List PyData) (vs : List V), DpAll K H vs ds → DpAll K H' vs ds
  | [], _, .nil => .nil
  | d :: ds, _, .cons a b => .cons (Dp.sm t d _ a) (DpAll.sm t ds _ b)
end
theorem DpAll.len {K : PySem.W.Frag} {H : Hp} : ∀ {vs : List V} {ds : List PyData}, DpAll K H vs ds → vs.length = ds.length
  | _, _, .nil => rfl
  | _, _, .cons _ b => by rw [List.length_cons, List.length_cons, DpAll.len b]
theorem DpAll.get {K : PySem.W.Frag} {H : Hp} : ∀ {vs : List V} {ds : List PyData}, DpAll K H vs ds → ∀ {i : Nat} {d : PyData}, ds[i]? = some d → ∃ v, vs[i]? = some v ∧ Dp K H v d
  | _, _, .nil, i, d, h => by simp at h
  | _, _, .cons a b, 0, d, h => by
    have e := Option.some.inj h
    subst e
    exact ⟨_, rfl, a⟩
  | _, _, .cons a b, i + 1, d, h => DpAll.get b (i := i) h
theorem depth_at : ∀ {xs : List PyData} {n : Nat}, PyData.depthAll xs ≤ n → ∀ {i : Nat} {d : PyData}, xs[i]? = some d → d.depth ≤ n
  | [], _, _, i, d, h => by simp at h
  | x :: xs, n, h, i, d, e => by
    rw [PyData.depthAll] at h
    cases i with
    | zero =>
      have z : x = d := Option.some.inj e
      rw [← z]; exact Nat.le_trans (Nat.le_max_left _ _) h
    | succ i => exact depth_at (Nat.le_trans (Nat.le_max_right _ _) h) (i := i) e
def spIsInt : Sp := fun vs H Q _ => ∃ i : Int, vs = [.int i] ∧ Q (.bl true) H
/-- two equal data of numbers, None and lists, n deep at most -/
def spSameI (K : PySem.W.Frag) (n : Nat) : Sp := fun vs H Q _ => ∃ (x y : V) (d : PyData), vs = [x, y] ∧ Dp K H x d ∧ Dp K H y d ∧ ist d = true ∧ d.depth ≤ n ∧
  Mak H Q fun z _ => z = .bl true
theorem lstT {K : PySem.W.Frag} {H : Hp} {a : Addr} {xs : List V} (h : SqL K H a xs) : TyX K H (.ref a) (.type "list") := by
  rcases h with (h | ⟨o, h⟩) | ⟨o, its, n, hk, hc, _⟩
  · exact .base (.lst h)
  · exact .base (.frz h)
  · exact .kList hk hc
theorem kitI {K : PySem.W.Frag} : PySem.W.kitAny K (.type "int") [.type "list", .type "tuple"] = some false :=
  kitAny_cons (b := false) (kit_ty (by decide +kernel)) (fun _ => kitAny_cons (b := false) (kit_ty (by decide +kernel)) (fun _ => rfl) (fun h => Bool.noConfusion h)) (fun h => Bool.noConfusion h)
theorem kitN {K : PySem.W.Frag} : PySem.W.kitAny K (.type "NoneType") [.type "list", .type "tuple"] = some false :=
  kitAny_cons (b := false) (kit_ty (by decide +kernel)) (fun _ => kitAny_cons (b := false) (kit_ty (by decide +kernel)) (fun _ => rfl) (fun h => Bool.noConfusion h)) (fun h => Bool.noConfusion h)
theorem kitL {K : PySem.W.Frag} : PySem.W.kitAny K (.type "list") [.type "list", .type "tuple"] = some true :=
  kitAny_cons (b := true) (kit_ty (by decide +kernel)) (fun h => Bool.noConfusion h) (fun _ => rfl)
section
variable {P : Program} {w : World} {K : PySem.W.Frag} {mg : Str → Option Value} {base : Heap}
theorem ok_isint {f : Addr} {fd : FuncData} (F : Fun K "_law_is_integer" "_law_is_integer" s_law_is_integer f fd) (T : Bl mg) :
    FnOk P w K mg base CX0 1 f fd ["actual"] spIsInt := by
  refine F.ok sc_law_is_integer (fun vs H Q E h => ?_) (fun cdv A outer s0 H vs Q E hr h => ?_)
  · obtain ⟨i, rfl, _⟩ := h
    rfl
  · obtain ⟨i, rfl, q⟩ := h
    refine ⟨_, (pss_one (ps_ret (pe_and (pe_callB call_isi (by rfl) T.isinstance (by decide +kernel) (pa_cons (pv 0) (pa_cons (pe_ty "int" (by rfl) T.int (by decide +kernel)) pa_nil))) (pe_one (pe_not (pe_callB call_isi (by rfl) T.isinstance (by decide +kernel) (pa_cons (pv 0) (pa_cons (pe_ty "bool" (by rfl) T.bool (by decide +kernel)) pa_nil)))))))), ?_⟩
    refine ⟨_, rfl, _, _, .type "int", .type "int", true, rfl, .ty _, .base (.int i), kit_ty (by decide +kernel), ?_⟩
    refine ⟨_, rfl, iteT ?_⟩
    refine ⟨_, rfl, _, _, .type "int", .type "bool", false, rfl, .ty _, .base (.int i), kit_ty (by decide +kernel), ?_⟩
    exact ⟨_, rfl, q⟩
/-- the scalar ways -/
theorem ok_same0 {f : Addr} {fd : FuncData} (F : Fun K "_law_same" "_law_same" s_law_same f fd) (T : Bl mg)
    (D_law_is_integer : Kn P w K mg base 1 "_law_is_integer" ["actual"] spIsInt) :
    FnOk P w K mg base CX0 2 f fd ["actual", "expected"] (spSameI K 0) := by
  refine F.ok sc_law_same (fun vs H Q E h => ?_) (fun cdv A outer s0 H vs Q E hr h => ?_)
  · obtain ⟨x, y, d, rfl, _⟩ := h
    rfl
  · obtain ⟨x, y, d, rfl, hx, hy, hi, hd, q⟩ := h
    refine ⟨_, (pss_cons (ps_if (pt_val (pe_callB call_isiT (by rfl) T.isinstance (by decide +kernel) (pa_cons (pv 1) (pa_cons (pe_tup (pa_cons (pe_ty "list" (by rfl) T.list (by decide +kernel)) (pa_cons (pe_ty "tuple" (by rfl) T.tuple (by decide +kernel)) pa_nil))) pa_nil)))) pss_never pss_nil)
      (pss_cons (ps_if (pt_cmpR op_isN (pv 1) pe_non (nomark _)) (pss_one (ps_ret (pe_cmpR op_isN (pv 0) pe_non (nomark _)))) pss_nil)
      (pss_cons (ps_if (pt_val (pe_callB call_isi (by rfl) T.isinstance (by decide +kernel) (pa_cons (pv 1) (pa_cons (pe_ty "bool" (by rfl) T.bool (by decide +kernel)) pa_nil)))) pss_never pss_nil)
      (pss_cons (ps_if (pt_val (pe_callB call_isi (by rfl) T.isinstance (by decide +kernel) (pa_cons (pv 1) (pa_cons (pe_ty "int" (by rfl) T.int (by decide +kernel)) pa_nil)))) (pss_one (ps_ret (pe_and (pe_kn D_law_is_integer hr (pa_cons (pv 0) pa_nil)) (pe_one (pe_cmpR op_eq (pv 0) (pv 1) (nomark _)))))) pss_nil)
      pss_never)))), ?_⟩
    cases hy with
    | int i =>
      cases hx
      refine ⟨_, rfl, sz 2, fun t nt => ?_⟩
      refine ⟨_, _, _, _, _, false, rfl, upd_same, .cons (.ty "list") (.cons (.ty "tuple") .nil), .base (.int i), kitI, ?_⟩
      refine ⟨_, rfl, iteF ?_⟩
      refine ⟨_, rfl, rfl, _, rfl, ite2 (fun e => absurd e (by simp)) (fun _ => ?_)⟩
      refine ⟨_, rfl, _, _, .type "int", .type "bool", false, rfl, .ty _, .base (.int i), kit_ty (by decide +kernel), ?_⟩
      refine ⟨_, rfl, iteF ?_⟩
      refine ⟨_, rfl, _, _, .type "int", .type "int", true, rfl, .ty _, .base (.int i), kit_ty (by decide +kernel), ?_⟩
      refine ⟨_, rfl, iteT ?_⟩
      refine ⟨_, rfl, i, rfl, _, rfl, iteT ?_⟩
      exact ⟨_, rfl, _, rfl, rfl, q _ _ (by rw [decide_eq_true rfl]) (Same.new nt)⟩
    | non =>
      cases hx
      refine ⟨_, rfl, sz 2, fun t nt => ?_⟩
      refine ⟨_, _, _, _, _, false, rfl, upd_same, .cons (.ty "list") (.cons (.ty "tuple") .nil), .base .non, kitN, ?_⟩
      refine ⟨_, rfl, iteF ?_⟩
      refine ⟨_, rfl, rfl, _, rfl, ite2 (fun _ => ?_) (fun e => absurd (decide_eq_true rfl) e)⟩
      exact ⟨_, rfl, rfl, q _ _ (by rw [decide_eq_true rfl]) (Same.new nt)⟩
    | lst _ _ => exact absurd hd (by rw [PyData.depth]; omega)
    | _ => exact absurd hi (by simp [K1.ist])
end
end K1
namespace K1
open PySem PySem.Spec PyProof.Rows L2 Ow Tlz
abbrev s_law_is_dict : Stmt := topS 20
abbrev N_law_is_dict : List Str := ["actual", "expected", "key"]
theorem sc_law_is_dict : FnScope N_law_is_dict ["actual", "expected"] (defScope s_law_is_dict) := ⟨rfl, rfl, rfl, by decide +kernel, rfl, by decide +kernel, by decide +kernel⟩
/-- two equal tables with pairs of names as keys, of numbers -/
def spIsDict : Sp := fun vs H Q _ => ∃ (a b : Addr) (kvs : List (List Key × V)), vs = [.ref a, .ref b] ∧ H a = some (.dT kvs) ∧ H b = some (.dT kvs) ∧ a ≠ b ∧ (∀ e ∈ kvs, ∃ n, e.2 = .int n) ∧ Mak H Q fun z _ => z = .bl true
theorem valV_memT {kvs : List (List Key × V)} {k : List Key} {v : V} (h : (k, v) ∈ kvs) : ∃ v', valV kvs k = some v' ∧ (k, v') ∈ kvs := by
  unfold valV
  cases e : kvs.find? fun kv => decide (kv.1 = k) with
  | none =>
    have := List.find?_eq_none.mp e _ h
    exact absurd (decide_eq_true rfl) this
  | some x =>
    have h1 := List.find?_some e
    have h2 := List.mem_of_find?_eq_some e
    have h3 : x.1 = k := of_decide_eq_true h1
    exact ⟨x.2, rfl, by rw [← h3]; exact h2⟩
section
variable {P : Program} {w : World} {K : PySem.W.Frag} {mg : Str → Option Value} {base : Heap} {C : Addr}
theorem ok_isdict {f : Addr} {fd : FuncData} (F0 : Fun K "_law_is_dict" "_law_is_dict" s_law_is_dict f fd) (T : Bl mg)
    (D_law_same : Kn P w K mg base 2 "_law_same" ["actual", "expected"] (spSameI K 0)) :
    FnOk P w K mg base CX0 3 f fd ["actual", "expected"] spIsDict := by
  refine F0.ok sc_law_is_dict (fun vs H Q E h => ?_) (fun cdv A outer s H vs Q E hr h => ?_)
  · obtain ⟨a, b, kvs, rfl, _⟩ := h
    rfl
  · obtain ⟨a, b, kvs, rfl, ha, hb, ab, hn, q⟩ := h
    have hu := hu_of hr
    refine ⟨_, (pss_cons (ps_if (PW.pt (pw_or (pt_not (pt_val (pe_callB call_isi (by rfl) T.isinstance (by decide +kernel) (pa_cons (pv 0) (pa_cons (pe_ty "dict" (by rfl) T.dict (by decide +kernel)) pa_nil))))) (pw_or1 (pt_cmpR op_ne (pe_callB call_len_dT (by rfl) T.len PySem.boot_len (pa_cons (pv 0) pa_nil)) (pe_callB call_len_dT (by rfl) T.len PySem.boot_len (pa_cons (pv 1) pa_nil)) (nomark _))))) (pss_one (ps_ret pe_bl)) pss_nil)
      (pss_cons (ps_lock (ps_for PassesOwn.never rfl (pi_keys (pv 1)) (pg_name (i := 2) sc_law_is_dict.nd rfl (.inl rfl)) (pss_one (ps_if (PW.pt (pw_or (pt_cmp (pc_dnotin hu (pv 2) (pv 0))) (pw_or1 (pt_not (pt_val (pe_kn D_law_same hr (pa_cons (pe_dget hu (pv 0) (pv 2) (fun _ _ => rfl)) (pa_cons (pe_dget hu (pv 1) (pv 2) (fun _ _ => rfl)) pa_nil)))))))) (pss_one (ps_ret pe_bl)) pss_nil))))
      (pss_one (ps_ret pe_bl)))), ?_⟩
    refine ⟨_, rfl, _, _, .type "dict", .type "dict", true, rfl, .ty _, .base (.dT ha), kit_ty (by decide +kernel), ?_⟩
    refine ⟨_, rfl, ?_⟩
    refine iteF ?_
    refine ⟨_, rfl, a, kvs, rfl, ha, _, rfl, b, kvs, rfl, hb, rfl, _, rfl, ?_⟩
    refine iteNS rfl ?_
    refine ⟨b, .dT kvs, hb, True.intro, fun od => ?_⟩
    have frb : (upd H b (.frz od (.dT kvs))) b = some (.frz od (.dT kvs)) := upd_same
    have hal : (upd H b (.frz od (.dT kvs))) a = some (.dT kvs) := by rw [upd_ne ab]; exact ha
    refine ⟨_, rfl, b, od, rfl, .inr ⟨kvs, frb, for_it walk_keysT (fun i σ H4 => ∃ y2 : Option V, σ = [some (.ref a), some (.ref b), y2] ∧ Same (upd H b (.frz od (.dT kvs))) H4)
      ⟨none, rfl, Same.refl _⟩ (fun i σ H4 _ hP => ?_) (fun i y σ H4 H5 hi hP hY => ?_) (fun σ H4 hP => ?_)⟩⟩
    · obtain ⟨_, _, s4⟩ := hP
      exact s4 _ _ frb
    · obtain ⟨y2, rfl, s4⟩ := hP
      obtain ⟨rfl, k, v, qk, ek, rfl, hqk⟩ := hY
      have mk := List.mem_of_getElem? ek
      obtain ⟨v', ev, mv⟩ := valV_memT mk
      obtain ⟨n, en⟩ := hn _ mv
      have en' : v' = .int n := en
      subst en'
      have d1 : DGet H5 a (.ref qk) (some (.int n)) := .inr ⟨kvs, k, qk, .inl (s4 _ _ hal), rfl, hqk, ev.symm⟩
      have d2 : DGet H5 b (.ref qk) (some (.int n)) := .inr ⟨kvs, k, qk, .inr ⟨od, s4 _ _ frb⟩, rfl, hqk, ev.symm⟩
      refine ⟨_, rfl, _, rfl, a, _, rfl, d1, _, rfl, ?_⟩
      refine iteF ?_
      refine ⟨_, rfl, _, rfl, a, _, rfl, d1, _, rfl, _, rfl, b, _, rfl, d2, _, _, .int n, rfl, .int n, .int n, by simp [ist], by simp [PyData.depth], ?_⟩
      rintro z6 H6 rfl s6
      exact ⟨_, rfl, iteF ⟨_, rfl, s4.trans s6⟩⟩
    · obtain ⟨y2, rfl, s4⟩ := hP
      refine ⟨s4 _ _ frb, ?_⟩
      exact q _ _ rfl (Same.lock hb s4)
end
end K1
namespace K1
open PySem PySem.Spec PyProof.Rows L2 Ow Tlz
/-! what the tables of a State have, by its items -/
def erT (R : Tb) : List (Str × List V) := R.map fun e => (e.1, e.2.2)
theorem erT_keys (R : Tb) : (erT R).map (·.1) = R.map (·.1) := by
  unfold erT
  rw [List.map_map]
  rfl
theorem relsOf_snoc (is : List It) (i : It) : relsOf (is ++ [i]) = relsOf is ++ relsOf [i] := by unfold relsOf; rw [List.filterMap_append]
theorem strsOf_snoc (is : List It) (i : It) : strsOf (is ++ [i]) = strsOf is ++ strsOf [i] := by unfold strsOf; rw [List.filterMap_append]
theorem puts_rel {is : List It} {R S : Tb} {F : Fb} {L : List (Str × V)} (h : Puts is R F S L) : ((relsOf is).map (·.1)).Nodup → erT R = relsOf is := by
  induction h with
  | nil => intro _; rfl
  | @snoc is i R S R' S' F F' L L' _ hp ih =>
    intro nd
    rw [relsOf_snoc] at nd ⊢
    cases i with
    | rel n c =>
      obtain ⟨⟨q, e⟩, _⟩ := hp
      have nd' := nd
      rw [List.map_append, List.nodup_append] at nd'
      have e1 := ih nd'.1
      have hn : valG R n = none := valG_not fun m => by
        rw [← erT_keys, e1] at m
        exact nd'.2.2 n m n (List.mem_singleton.mpr rfl) rfl
      rw [e, putG_new _ hn, ← e1]
      unfold erT
      rw [List.map_append]
      rfl
    | fact n r row =>
      obtain ⟨_, e, _⟩ := hp
      have e0 : relsOf [It.fact n r row] = [] := rfl
      rw [e0, List.append_nil] at nd ⊢
      rw [e]
      exact ih nd
    | str n c =>
      obtain ⟨_, e, _⟩ := hp
      have e0 : relsOf [It.str n c] = [] := rfl
      rw [e0, List.append_nil] at nd ⊢
      rw [e]
      exact ih nd
    | lay n v =>
      obtain ⟨_, e, _⟩ := hp
      have e0 : relsOf [It.lay n v] = [] := rfl
      rw [e0, List.append_nil] at nd ⊢
      rw [e]
      exact ih nd
theorem puts_str {is : List It} {R S : Tb} {F : Fb} {L : List (Str × V)} (h : Puts is R F S L) : ((strsOf is).map (·.1)).Nodup → erT S = strsOf is := by
  induction h with
  | nil => intro _; rfl
  | @snoc is i R S R' S' F F' L L' _ hp ih =>
    intro nd
    rw [strsOf_snoc] at nd ⊢
    cases i with
    | str n c =>
      obtain ⟨⟨q, e⟩, _⟩ := hp
      have nd' := nd
      rw [List.map_append, List.nodup_append] at nd'
      have e1 := ih nd'.1
      have hn : valG S n = none := valG_not fun m => by
        rw [← erT_keys, e1] at m
        exact nd'.2.2 n m n (List.mem_singleton.mpr rfl) rfl
      rw [e, putG_new _ hn, ← e1]
      unfold erT
      rw [List.map_append]
      rfl
    | fact n r row =>
      obtain ⟨_, _, e, _⟩ := hp
      have e0 : strsOf [It.fact n r row] = [] := rfl
      rw [e0, List.append_nil] at nd ⊢
      rw [e]
      exact ih nd
    | rel n c =>
      obtain ⟨_, _, e, _⟩ := hp
      have e0 : strsOf [It.rel n c] = [] := rfl
      rw [e0, List.append_nil] at nd ⊢
      rw [e]
      exact ih nd
    | lay n v =>
      obtain ⟨_, _, _, e⟩ := hp
      have e0 : strsOf [It.lay n v] = [] := rfl
      rw [e0, List.append_nil] at nd ⊢
      rw [e]
      exact ih nd
def rmc : List V → Int
  | [_, .int r] => r
  | _ => 0
def szc : List V → Int
  | [_, _, .int b, .int s] => b * s
  | _ => 0
theorem roomOf_eq (R : Tb) (n : Str) : roomOf R n = rmc (contOf R n) := by
  unfold roomOf contOf
  split
  · rename_i e
    rw [e]
    rfl
  · rename_i h
    cases e : valG R n with
    | none => rfl
    | some b =>
      rw [e] at h
      show 0 = rmc b.2
      unfold rmc
      split
      · rename_i r hb
        exact absurd (show some b = some (b.1, [_, V.int r]) by rw [← hb]) (h _ _ _)
      · rfl
theorem sizeOf_eq (R : Tb) (n : Str) : sizeOf2 R n = szc (contOf R n) := by
  unfold sizeOf2 contOf
  split
  · rename_i e
    rw [e]
    rfl
  · rename_i h
    cases e : valG R n with
    | none => rfl
    | some b =>
      rw [e] at h
      show 0 = szc b.2
      unfold szc
      split
      · rename_i b1 s1 hb
        exact absurd (show some b = some (b.1, [_, _, V.int b1, V.int s1]) by rw [← hb]) (h _ _ _ _ _)
      · rfl
theorem cont_mem {R : Tb} {n : Str} {c : List V} (nd : (R.map (·.1)).Nodup) (h : (n, c) ∈ erT R) : contOf R n = c := by
  unfold erT at h
  obtain ⟨e, me, ee⟩ := List.mem_map.mp h
  have h1 : e.1 = n := congrArg Prod.fst ee
  have h2 : e.2.2 = c := congrArg Prod.snd ee
  have h3 : valG R n = some e.2 := valG_of nd (by rw [← h1]; exact me)
  unfold contOf
  rw [h3]
  exact h2
theorem pl1_congr {f g : Str → Int} (w : Str) : ∀ {ys : List Str} (a : List (List Key × V) × Int), (∀ n ∈ ys, f n = g n) → ys.foldl (plStep w f) a = ys.foldl (plStep w g) a
  | [], _, _ => rfl
  | y :: ys, a, h => by
    rw [List.foldl_cons, List.foldl_cons]
    have e : plStep w f a y = plStep w g a y := by
      unfold plStep
      rw [h y List.mem_cons_self]
    rw [e]
    exact pl1_congr w _ fun n m => h n (List.mem_cons_of_mem _ m)
theorem pl2_congr {f g f' g' : Str → Int} {ys zs : List Str} (h : ∀ n ∈ ys, f n = g n) (h' : ∀ n ∈ zs, f' n = g' n) : pl2 f f' ys zs = pl2 g g' ys zs := by
  unfold pl2 pl1
  rw [pl1_congr "relation" _ h, pl1_congr "structure" _ h']
theorem putK_ints {kvs : List (List Key × V)} {k : List Key} {n : Int} (h : ∀ e ∈ kvs, ∃ m, e.2 = V.int m) : ∀ e ∈ putK kvs k (.int n), ∃ m, e.2 = V.int m := by
  intro e m
  unfold putK at m
  split at m
  · obtain ⟨x, mx, ex⟩ := List.mem_map.mp m
    split at ex
    · rw [← ex]; exact ⟨_, rfl⟩
    · rw [← ex]; exact h x mx
  · rcases List.mem_append.mp m with m | m
    · exact h e m
    · rw [List.mem_singleton.mp m]; exact ⟨_, rfl⟩
theorem pl_ints (w : Str) (f : Str → Int) : ∀ (ys : List Str) (a : List (List Key × V) × Int), (∀ e ∈ a.1, ∃ m, e.2 = V.int m) → ∀ e ∈ (ys.foldl (plStep w f) a).1, ∃ m, e.2 = V.int m
  | [], _, h => h
  | y :: ys, a, h => pl_ints w f ys (plStep w f a y) (putK_ints h)
theorem pl2_ints (f g : Str → Int) (ys zs : List Str) : ∀ e ∈ (pl2 f g ys zs).1, ∃ m, e.2 = V.int m := pl_ints _ _ _ _ (pl_ints _ _ _ _ (fun _ m => nomatch m))
theorem pl2_sum (f g : Str → Int) (ys zs : List Str) : (pl2 f g ys zs).2 = (ys.map f).sum + (zs.map g).sum := by
  unfold pl2 pl1
  rw [pl_sum, pl_sum]
  show 0 + _ + _ = _
  omega
theorem perm_sum {xs ys : List Int} (p : xs.Perm ys) : xs.sum = ys.sum := by
  induction p with
  | nil => rfl
  | cons x _ ih => rw [List.sum_cons, List.sum_cons, ih]
  | swap x y l => rw [List.sum_cons, List.sum_cons, List.sum_cons, List.sum_cons]; omega
  | trans _ _ a b => exact a.trans b
/-- the State's table and the law's -/
theorem same_tab {R R' : Tb} {ys : List Str} (nd : (R'.map (·.1)).Nodup) (py : ys.Perm (R'.map (·.1))) (e : erT R = (ys.map fun n => (n, contOf R' n)).reverse) :
    R.map (·.1) = ys.reverse ∧ (R.map (·.1)).Nodup ∧ ∀ n ∈ ys, contOf R n = contOf R' n := by
  have k : R.map (·.1) = ys.reverse := by
    rw [← erT_keys, e, List.map_reverse, List.map_map]
    congr 1
    exact List.map_id' _
  have ndy : ys.Nodup := py.nodup_iff.mpr nd
  have ndR : (R.map (·.1)).Nodup := by rw [k]; exact (List.reverse_perm ys).nodup_iff.mpr ndy
  refine ⟨k, ndR, fun n m => cont_mem ndR ?_⟩
  rw [e, List.mem_reverse]
  exact List.mem_map.mpr ⟨n, m, rfl⟩
end K1
namespace K1
open PySem PySem.Spec PyProof.Rows L2 Ow Tlz
abbrev slaw : Stmt := topS 31
abbrev Nlaw : List Str := ["script", "state", "shelf", "relations", "structures", "k", "name", "items", "actual", "due", "start", "told"]
theorem sclaw : FnScope Nlaw ["script"] (defScope slaw) := ⟨rfl, rfl, rfl, by decide +kernel, rfl, by decide +kernel, by decide +kernel⟩
def spLaw (K : PySem.W.Frag) : Sp := fun vs H Q _ => ∃ (a : Addr) (ns : List Int), vs = [.ref a] ∧ SqL K H a (ns.map V.int) ∧ ns.length ≤ 63 ∧ ∀ H', Q (.bl true) H'
/-- the class, made with a list of items and with none -/
structure Sta (P : Program) (w : World) (K : PySem.W.Frag) (mg : Str → Option Value) (base : Heap) (C : Addr) : Prop where
  ex : ∃ (f : Addr) (fd : FuncData) (a0 : Addr) (ds : List Value), Mk K C f ∧ FnOk P w K mg base CX0 6 f fd ["self", "items"] (spInit K C) ∧ FnOk P w K mg base CX0 6 f fd ["self", "items"] (spInit0 K C) ∧
    Binds K fd ["self", "items"] [] ∧ Binds K fd ["self", "items"] ds ∧ Vals [V.ref a0] ds ∧ ∀ H : Hp, SqT K H a0 []
theorem same_make {H : Hp} {x dx C : Addr} (hx : H x = none) (hd : H dx = none) : Same H (upd (upd H dx (.own x)) x (.ins C dx [])) := fun b o e => by
  rw [upd_ne (ne_of_none e hx), upd_ne (ne_of_none e hd)]
  exact e
theorem same_made {H H' : Hp} {x dx C : Addr} (hx : H x = none) (hd : H dx = none) (g : Gw x (upd (upd H dx (.own x)) x (.ins C dx [])) H') : Same H H' := fun b o e =>
  g b o (ne_of_none e hx) (same_make hx hd b o e)
theorem relC_of {R R' : Tb} {ys : List Str} {P : List V → Prop} (py : ys.Perm (R'.map (·.1))) (e : erT R = (ys.map fun n => (n, contOf R' n)).reverse) (h : ∀ e ∈ R', P e.2.2) : ∀ e ∈ R, P e.2.2 := fun u m => by
  have m1 : (u.1, u.2.2) ∈ erT R := List.mem_map.mpr ⟨u, m, rfl⟩
  rw [e, List.mem_reverse] at m1
  obtain ⟨n, mn, en⟩ := List.mem_map.mp m1
  have e2 : contOf R' n = u.2.2 := congrArg Prod.snd en
  obtain ⟨q, c, ec, mc⟩ := mem_val (py.mem_iff.mp mn)
  rw [← e2, cont_eq ec]
  exact h _ mc
theorem rev_keys {R' : Tb} {ys : List Str} {its : List (Addr × It)} (nd : (R'.map (·.1)).Nodup) (py : ys.Perm (R'.map (·.1))) (er : relsOf (its.map (·.2)) = ys.map (fun n => (n, contOf R' n))) :
    relsOf (its.reverse.map (·.2)) = (ys.map (fun n => (n, contOf R' n))).reverse ∧ ((relsOf (its.reverse.map (·.2))).map (·.1)).Nodup := by
  have e1 : relsOf (its.reverse.map (·.2)) = (ys.map (fun n => (n, contOf R' n))).reverse := by
    rw [← er]
    unfold relsOf
    rw [List.map_reverse, List.filterMap_reverse]
  refine ⟨e1, ?_⟩
  rw [e1, List.map_reverse, List.map_map]
  refine (List.reverse_perm _).nodup_iff.mpr ?_
  rw [show (Prod.fst ∘ fun n => (n, contOf R' n)) = id from rfl, List.map_id]
  exact py.nodup_iff.mpr nd
theorem rev_keysS {R' : Tb} {ys : List Str} {its : List (Addr × It)} (nd : (R'.map (·.1)).Nodup) (py : ys.Perm (R'.map (·.1))) (er : strsOf (its.map (·.2)) = ys.map (fun n => (n, contOf R' n))) :
    strsOf (its.reverse.map (·.2)) = (ys.map (fun n => (n, contOf R' n))).reverse ∧ ((strsOf (its.reverse.map (·.2))).map (·.1)).Nodup := by
  have e1 : strsOf (its.reverse.map (·.2)) = (ys.map (fun n => (n, contOf R' n))).reverse := by
    rw [← er]
    unfold strsOf
    rw [List.map_reverse, List.filterMap_reverse]
  refine ⟨e1, ?_⟩
  rw [e1, List.map_reverse, List.map_map]
  refine (List.reverse_perm _).nodup_iff.mpr ?_
  rw [show (Prod.fst ∘ fun n => (n, contOf R' n)) = id from rfl, List.map_id]
  exact py.nodup_iff.mpr nd
section
variable {P : Program} {w : World} {K : PySem.W.Frag} {mg : Str → Option Value} {base : Heap} {C : Addr}
theorem ok_law {f : Addr} {fd : FuncData} (F0 : Fun K "law" "law" slaw f fd) (T : Bl mg) (X : Txt K mg C) (St : Sta P w K mg base C)
    (D_law_draws : Kn P w K mg base 2 "_law_draws" ["script"] (spDraws K))
    (D_law_next : Kn P w K mg base 3 "_law_next" ["state", "limit"] spNext)
    (D_law_shelf : Kn P w K mg base 7 "_law_shelf" ["state", "most"] (spShelf K))
    (D_law_shelf_items : Kn P w K mg base 1 "_law_shelf_items" ["shelf"] (spItems K))
    (D_law_is_dict : Kn P w K mg base 3 "_law_is_dict" ["actual", "expected"] spIsDict)
    (D_law_same : Kn P w K mg base 2 "_law_same" ["actual", "expected"] (spSameI K 0))
    (Dplaces : Kn P w K mg base 2 "places" ["state"] (spPlaces K C))
    (Droom_needed : Kn P w K mg base 2 "room_needed" ["state"] (spNeeded K C)) :
    FnOk P w K mg base CX0 9 f fd ["script"] (spLaw K) := by
  obtain ⟨fI, fdI, a0, dsI, M, GI, GI0, bI, bI0, vI0, hA0⟩ := St.ex
  refine F0.ok sclaw (fun vs H Q E h => ?_) (fun cdv A outer s0 H vs Q E hr h => ?_)
  · obtain ⟨a, ns, rfl, _⟩ := h
    rfl
  · obtain ⟨a, ns, rfl, hS, hlen, q⟩ := h
    have hu := hu_of hr
    have hr7 := hr.mono (show 7 ≤ 8 by decide)
    refine ⟨_, (pss_cons (ps_set (i := 1) sclaw.nd rfl (.inl rfl) (pe_lst (pa_cons (pe_kn D_law_draws hr (pa_cons (pv 0) pa_nil)) (pa_cons pe_int pa_nil))))
      (pss_cons (ps_set (i := 2) sclaw.nd rfl (.inl rfl) (pe_kn D_law_shelf hr (pa_cons (pv 1) (pa_cons pe_int pa_nil))))
      (pss_cons (ps_set (i := 3) sclaw.nd rfl (.inl rfl) (pe_ix ix_list (pv 2) pe_int (fun _ _ => rfl)))
      (pss_cons (ps_set (i := 4) sclaw.nd rfl (.inl rfl) (pe_ix ix_list (pv 2) pe_int (fun _ _ => rfl)))
      (pss_cons (ps_for PassesOwn.never rfl (pi_range1 (by rfl) T.range (pa_cons (pe_kn D_law_next hr (pa_cons (pv 1) (pa_cons pe_int pa_nil))) pa_nil)) (pg_name (i := 5) sclaw.nd rfl (.inl rfl)) (pss_cons (ps_set (i := 6) sclaw.nd rfl (.inl rfl) (pe_op op_add_str (pe_op op_add_str pe_str (pe_ix ix_str pe_str (pe_kn D_law_next hr (pa_cons (pv 1) (pa_cons pe_int pa_nil))) (fun _ _ => rfl))) (pe_callTy call_str_int (by rfl) T.str (by decide +kernel) (pa_cons (pv 5) pa_nil))))
      (pss_one (ps_if (pt_cmpR op_eq (pe_kn D_law_next hr (pa_cons (pv 1) (pa_cons pe_int pa_nil))) pe_int (nomark _)) (pss_one (ps_dput hu (pv 3) (pv 6) (pe_tup (pa_cons (pe_tup (pa_cons pe_str pa_nil)) (pa_cons (pe_op op_add pe_int (pe_kn D_law_next hr (pa_cons (pv 1) (pa_cons pe_int pa_nil)))) pa_nil))) rfl)) (pss_one (ps_if (pt_cmpR op_gt (pe_callB call_lenD (by rfl) T.len PySem.boot_len (pa_cons (pv 3) pa_nil)) pe_int (nomark _)) (pss_one (ps_dput hu (pv 4) (pv 6) (pe_tup (pa_cons (pe_ix ix_list (pe_callB cr_sortedS (by rfl) T.sorted (by decide +kernel) (pa_cons (pe_callTy (call_listD rfl) (by rfl) T.list (by decide +kernel) (pa_cons (pv 3) pa_nil)) pa_nil)) pe_int (fun _ _ => rfl)) (pa_cons (pe_tup (pa_cons pe_str pa_nil)) (pa_cons (pe_op op_add pe_int (pe_kn D_law_next hr (pa_cons (pv 1) (pa_cons pe_int pa_nil)))) (pa_cons (pe_op op_add pe_int (pe_kn D_law_next hr (pa_cons (pv 1) (pa_cons pe_int pa_nil)))) pa_nil))))) rfl)) pss_nil))))))
      (pss_cons (ps_set (i := 7) sclaw.nd rfl (.inl rfl) (pe_kn D_law_shelf_items hr (pa_cons (pv 2) pa_nil)))
      (pss_cons (ps_set (i := 8) sclaw.nd rfl (.inl rfl) (pe_make M GI hr7 (by rfl) X.mgC bI .nil pass0 (pa_cons (pe_revL (pv 7)) pa_nil)))
      (pss_cons (ps_set (i := 9) sclaw.nd rfl (.inl rfl) pe_dnewT)
      (pss_cons (ps_set (i := 10) sclaw.nd rfl (.inl rfl) pe_int)
      (pss_cons (ps_for PassesOwn.never rfl (pi_list (pe_callB cr_sortedS (by rfl) T.sorted (by decide +kernel) (pa_cons (pe_callTy (call_listD rfl) (by rfl) T.list (by decide +kernel) (pa_cons (pv 3) pa_nil)) pa_nil))) (pg_name (i := 6) sclaw.nd rfl (.inl rfl)) (pss_cons (ps_dput hu (pv 9) (pe_tup (pa_cons pe_str (pa_cons (pv 6) pa_nil))) (pv 10) rfl)
      (pss_one (ps_set (i := 10) sclaw.nd rfl (.inl rfl) (pe_op op_add (pv 10) (pe_ix ix_tup (pe_dget hu (pv 3) (pv 6) (fun _ _ => rfl)) pe_int (fun _ _ => rfl)))))))
      (pss_cons (ps_for PassesOwn.never rfl (pi_list (pe_callB cr_sortedS (by rfl) T.sorted (by decide +kernel) (pa_cons (pe_callTy (call_listD rfl) (by rfl) T.list (by decide +kernel) (pa_cons (pv 4) pa_nil)) pa_nil))) (pg_name (i := 6) sclaw.nd rfl (.inl rfl)) (pss_cons (ps_dput hu (pv 9) (pe_tup (pa_cons pe_str (pa_cons (pv 6) pa_nil))) (pv 10) rfl)
      (pss_one (ps_set (i := 10) sclaw.nd rfl (.inl rfl) (pe_op op_add (pv 10) (pe_op op_mul (pe_ix ix_tup (pe_dget hu (pv 4) (pv 6) (fun _ _ => rfl)) pe_int (fun _ _ => rfl)) (pe_ix ix_tup (pe_dget hu (pv 4) (pv 6) (fun _ _ => rfl)) pe_int (fun _ _ => rfl))))))))
      (pss_cons (ps_set (i := 11) sclaw.nd rfl (.inl rfl) (pe_kn Dplaces hr (pa_cons (pv 8) pa_nil)))
      (pss_cons (ps_if (PW.pt (pw_or (pt_not (pt_val (pe_callB call_isi (by rfl) T.isinstance (by decide +kernel) (pa_cons (pv 11) (pa_cons (pe_ty "dict" (by rfl) T.dict (by decide +kernel)) pa_nil))))) (pw_or (pt_not (pt_val (pe_kn D_law_is_dict hr (pa_cons (pv 11) (pa_cons (pv 9) pa_nil))))) (pw_or1 (pt_not (pt_val (pe_kn D_law_same hr (pa_cons (pe_kn Droom_needed hr (pa_cons (pv 8) pa_nil)) (pa_cons (pv 10) pa_nil))))))))) (pss_one (ps_ret pe_bl)) pss_nil)
      (pss_cons (ps_dput hu (pv 11) (pe_tup (pa_cons pe_str (pa_cons pe_str pa_nil))) pe_int rfl)
      (pss_one (ps_ret (pe_and (pe_kn D_law_is_dict hr (pa_cons (pe_kn Dplaces hr (pa_cons (pv 8) pa_nil)) (pa_cons (pv 9) pa_nil))) (pe_one (pe_kn D_law_same hr (pa_cons (pe_kn Droom_needed hr (pa_cons (pe_make0 M GI0 hr7 (by rfl) X.mgC bI0 vI0 pass0) pa_nil)) (pa_cons pe_int pa_nil))))))))))))))))))))), ?_⟩
    -- state
    refine ⟨_, rfl, a, ns, rfl, hS, hlen, ?_⟩
    intro H1 d dsn sm1 nd ed
    refine ⟨sz 2, fun p np => ?_⟩
    have ndp : d ≠ p := ne_of_none ed np
    have rg2 : Rng d (upd H1 p (.lst [.ref d, .int 20])) p := ⟨dsn, 20, upd_same, by decide, by rw [upd_ne ndp]; exact ed⟩
    generalize (upd H1 p (.lst [.ref d, .int 20])) = H2 at rg2 ⊢
    -- shelf
    refine ⟨_, rfl, p, d, 4, rfl, by decide, rg2, ?_⟩
    rintro x3 H3 ⟨ls, dr, df, ds, R0, S0, F, rfl, els, sh3, lR0, lF, lS0⟩ gw3 rg3
    refine ⟨_, rfl, ls, _, 0, .ref dr, rfl, rfl, SqL.of els, at_of (j := 0) rfl rfl, ?_⟩
    refine ⟨_, rfl, ls, _, 2, .ref ds, rfl, rfl, SqL.of els, at_of (j := 2) rfl rfl, ?_⟩
    have lsp : ls ≠ p := by
      obtain ⟨nn, k, hp, _, _⟩ := rg3
      intro w
      rw [w, hp] at els
      simp at els
    -- further names
    refine ⟨_, rfl, p, d, 5, rfl, by decide, rg3, ?_⟩
    rintro x4 H4 ⟨m, rfl, m0, m1⟩ gw4 rg4
    refine ⟨m, rfl, by omega, by omega, for_range (lo := 0) (n := m.toNat) (fun i σ H5 => ∃ (y5 y6 : Option V) (R S : Tb), σ = [some (.ref a), some (.ref p), some (.ref ls), some (.ref dr), some (.ref ds), y5, y6, none, none, none, none, none] ∧
        ShAt K H5 dr df ds R F S ∧ R.length ≤ 3 + i ∧ S.length ≤ 3 + i ∧ Rng d H5 p ∧ H5 ls = some (.lst [.ref dr, .ref df, .ref ds]))
      ⟨none, none, R0, S0, rfl, sh3.gw rg3 gw4, by omega, by omega, rg4, gw4.keep els lsp⟩ (fun i σ H5 hi hP => ?_) (fun σ H5 hP => ?_)⟩
    · obtain ⟨y5, y6, R, S, rfl, sh5, lR, lS, rg5, els5⟩ := hP
      refine ⟨_, rfl, p, d, 6, rfl, by decide, rg5, ?_⟩
      rintro x6 H6 ⟨v, rfl, v0, v1⟩ gw6 rg6
      obtain ⟨ch, hch, mch⟩ := at_in (xs := (PySem.Str.ofString "abcxyz").cps.toList) (v := v) v0 (by
        rw [show (PySem.Str.ofString "abcxyz").cps.toList.length = 6 by decide +kernel]
        exact v1)
      refine ⟨_, _, ch, rfl, rfl, by decide +kernel, hch, _, _, rfl, rfl, (by decide +kernel : (PySem.Str.ofString "n").length + 1 ≤ sizeLine), _, rfl, _, rfl, ?_, _, _, rfl, rfl, ?_, ?_⟩
      · have : i = 0 ∨ i = 1 ∨ i = 2 ∨ i = 3 := by omega
        rcases this with rfl | rfl | rfl | rfl <;> decide +kernel
      · rw [PySem.Str.length_append]
        have : i = 0 ∨ i = 1 ∨ i = 2 ∨ i = 3 := by omega
        have l1 : (PySem.Str.ofString "n").length + (({ cps := #[ch] } : Str)).length ≤ 2 := by
          have : (PySem.Str.ofString "n").length = 1 := by decide +kernel
          rw [this]
          exact Nat.le_refl _
        have l2 : (PySem.Str.ofString (toString ((0 : Int) + (i : Int)))).length ≤ 1 := by
          rcases this with rfl | rfl | rfl | rfl <;> decide +kernel
        exact Nat.le_of_lt (small (m := 1000) (by omega) (by decide))
      generalize (PySem.Str.ofString "n" ++ ({ cps := #[ch] } : Str) ++ PySem.Str.ofString (toString ((0 : Int) + (i : Int)))) = nm
      have lkR : (kvR R).length = R.length := kvG_len _ _
      have lkS : (kvR S).length = S.length := kvG_len _ _
      have sh6 := sh5.gw rg5 gw6
      have els6 := gw6.keep els5 lsp
      refine ⟨_, rfl, p, d, 2, rfl, by decide, rg6, ?_⟩
      rintro x7 H7 ⟨v7, rfl, v70, v71⟩ gw7 rg7
      have sh7 := sh6.gw rg6 gw7
      have els7 := gw7.keep els6 lsp
      refine ⟨rfl, _, rfl, ite2 (fun _ => ?_) (fun _ => ?_)⟩
      · -- a relation
        refine ⟨sz 1, fun t0 nt0 => ?_⟩
        have s8 := Same.new (o := .tup [V.str "x"]) nt0
        have e8 := upd_same (H := H7) (a := t0) (o := .tup [V.str "x"])
        have sh8 := sh7.same s8
        have rg8 := rg7.same s8
        have els8 := s8 _ _ els7
        generalize (upd H7 t0 (.tup [V.str "x"])) = H8 at *
        refine ⟨_, rfl, p, d, 40, rfl, by decide, rg8, ?_⟩
        rintro x9 H9 ⟨v9, rfl, v90, v91⟩ gw9 rg9
        have sh9 := sh8.gw rg8 gw9
        have els9 := gw9.keep els8 lsp
        have e9 := Rng.tk (K := K) rg8 gw9 _ _ (SqT.of e8)
        refine ⟨_, _, rfl, rfl, sz 2, fun t1 nt1 => ?_⟩
        have s10 := Same.new (o := .tup [V.ref t0, .int (1 + v9)]) nt1
        have e10 := upd_same (H := H9) (a := t1) (o := .tup [V.ref t0, .int (1 + v9)])
        have sh10 := sh9.same s10
        have rg10 := rg9.same s10
        have els10 := s10 _ _ els9
        have e10' := Tk.same (K := K) s10 _ _ e9
        generalize (upd H9 t1 (.tup [V.ref t0, .int (1 + v9)])) = H10 at *
        refine ⟨_, rfl, _, rfl, dr, _, rfl, DPut.k (k := Sum.inr nm) sh10.r (small (m := 1000) (by omega) (by decide)), ?_⟩
        have drp : dr ≠ p ∧ dr ≠ d := by
          have h1 := sh10.r
          obtain ⟨nn, k, hp, _, hd⟩ := rg10
          exact ⟨(fun w => by rw [w, hp] at h1; cases h1), (fun w => by rw [w, hd] at h1; cases h1)⟩
        have lsr : ls ≠ dr := fun w => by have h1 := sh10.r; rw [← w, els10] at h1; cases h1
        refine ⟨_, _, _, _, rfl, sh10.rel (SqT.of e10) e10' ⟨by decide, by decide⟩, ?_, by omega, rg10.upd drp, by rw [upd_ne lsr]; exact els10⟩
        have := putG_len R nm (t1, [V.ref t0, .int (1 + v9)])
        omega
      · refine ⟨_, rfl, dr, kvR R, rfl, sh7.r, _, _, rfl, rfl, _, rfl, ite2 (fun e => ?_) (fun e => ?_)⟩
        · -- a structure
          refine ⟨_, rfl, dr, kvR R, rfl, .inl sh7.r, fun l0 nl0 => ?_⟩
          rw [kv_names]
          have s8 := Same.new (o := .lst ((R.map (·.1)).map V.str)) nl0
          have e8 := upd_same (H := H7) (a := l0) (o := .lst ((R.map (·.1)).map V.str))
          have sh8 := sh7.same s8
          have rg8 := rg7.same s8
          have els8 := s8 _ _ els7
          generalize (upd H7 l0 (.lst ((R.map (·.1)).map V.str))) = H8 at *
          refine ⟨l0, R.map (·.1), rfl, SqL.of e8, by rw [List.length_map]; omega, fun ys yp py sy nyp => ?_⟩
          have lys : 0 < ys.length := by
            rw [py.length_eq, List.length_map]
            have := of_decide_eq_true e
            omega
          have s9 := Same.new (o := .lst (ys.map V.str)) nyp
          have e9 := upd_same (H := H8) (a := yp) (o := .lst (ys.map V.str))
          have sh9 := sh8.same s9
          have rg9 := rg8.same s9
          have els9 := s9 _ _ els8
          generalize (upd H8 yp (.lst (ys.map V.str))) = H9 at *
          refine ⟨yp, _, 0, .str ys[0], rfl, rfl, SqL.of e9, at_of (j := 0) rfl (by rw [List.getElem?_map, List.getElem?_eq_getElem lys]; rfl), ?_⟩
          refine ⟨sz 1, fun t0 nt0 => ?_⟩
          have s10 := Same.new (o := .tup [V.str "x"]) nt0
          have sh10 := sh9.same s10
          have rg10 := rg9.same s10
          have els10 := s10 _ _ els9
          generalize (upd H9 t0 (.tup [V.str "x"])) = H10 at *
          refine ⟨_, rfl, p, d, 16, rfl, by decide, rg10, ?_⟩
          rintro x11 H11 ⟨v11, rfl, v110, v111⟩ gw11 rg11
          have sh11 := sh10.gw rg10 gw11
          have els11 := gw11.keep els10 lsp
          refine ⟨_, _, rfl, rfl, _, rfl, p, d, 8, rfl, by decide, rg11, ?_⟩
          rintro x12 H12 ⟨v12, rfl, v120, v121⟩ gw12 rg12
          have sh12 := sh11.gw rg11 gw12
          have els12 := gw12.keep els11 lsp
          refine ⟨_, _, rfl, rfl, sz 4, fun t1 nt1 => ?_⟩
          have s13 := Same.new (o := .tup [V.str ys[0], V.ref t0, .int (1 + v11), .int (1 + v12)]) nt1
          have e13 := upd_same (H := H12) (a := t1) (o := .tup [V.str ys[0], V.ref t0, .int (1 + v11), .int (1 + v12)])
          have sh13 := sh12.same s13
          have rg13 := rg12.same s13
          have els13 := s13 _ _ els12
          generalize (upd H12 t1 (.tup [V.str ys[0], V.ref t0, .int (1 + v11), .int (1 + v12)])) = H13 at *
          refine ⟨_, rfl, _, rfl, ds, _, rfl, DPut.k (k := Sum.inr nm) sh13.s (small (m := 1000) (by omega) (by decide)), ?_⟩
          have dsp : ds ≠ p ∧ ds ≠ d := by
            have h1 := sh13.s
            obtain ⟨nn, k, hp, _, hd⟩ := rg13
            exact ⟨(fun w => by rw [w, hp] at h1; cases h1), (fun w => by rw [w, hd] at h1; cases h1)⟩
          have lss : ls ≠ ds := fun w => by have h1 := sh13.s; rw [← w, els13] at h1; cases h1
          refine ⟨_, _, _, _, rfl, sh13.stru (SqT.of e13) (by omega) (by omega), by omega, ?_, rg13.upd dsp, by rw [upd_ne lss]; exact els13⟩
          have := putG_len S nm (t1, [V.str ys[0], V.ref t0, .int (1 + v11), .int (1 + v12)])
          omega
        · exact ⟨_, _, _, _, rfl, sh7, by omega, by omega, rg7, els7⟩
    · obtain ⟨y5, y6, R, S, rfl, sh5, lR, lS, rg5, els5⟩ := hP
      clear gw3 gw4 rg3 rg4 sh3 els rg2 np nd ed sm1 lsp lR0 lS0
      have lR' : R.length ≤ 8 := by omega
      have lS' : S.length ≤ 8 := by omega
      have lkR : (kvR R).length = R.length := kvG_len _ _
      have lkS : (kvR S).length = S.length := kvG_len _ _
      -- the items
      refine ⟨_, rfl, ls, dr, df, ds, R, S, F, rfl, SqL.of els5, sh5, by omega, lF, by omega, fun its ip ys zs H6 s6 nip eip iok lits py sy pz sz' er es => ?_⟩
      refine ⟨_, rfl, ip, irefs its, rfl, SqL.of eip, fun rp nrp => ?_⟩
      have s7 := s6.trans (Same.new (o := .lst (irefs its).reverse) nrp)
      have e7 := upd_same (H := H6) (a := rp) (o := .lst (irefs its).reverse)
      have iok7 := iok.tk (Tk.same (K := K) (Same.new (o := .lst (irefs its).reverse) nrp))
      generalize (upd H6 rp (.lst (irefs its).reverse)) = H7 at *
      -- the State
      refine fun x dx nx ndx nex => ⟨x, rp, dx, its.reverse, rfl, upd_same, ?_, fun u mu => ?_, by rw [List.length_reverse]; omega, fun ar af as_ al R1 S1 F1 L1 H8 st8 pu gw8 => ⟨rfl, ?_⟩⟩
      · have := same_make (C := C) nx ndx _ _ e7
        rw [show (its.reverse.map fun t => V.ref t.1) = (irefs its).reverse from List.map_reverse]
        exact SqL.of this
      · exact (iok7 u (List.mem_reverse.mp mu)).tk (Tk.same (same_make nx ndx))
      have s8 := s7.trans (same_made nx ndx gw8)
      generalize (fun b => (upd (upd H7 dx (.own x)) x (.ins C dx [])) b = none) = Z at st8
      obtain ⟨er1, nd1⟩ := rev_keys sh5.rn py er
      obtain ⟨es1, nd2⟩ := rev_keysS sh5.sn pz es
      have er2 := (puts_rel pu nd1).trans er1
      have es2 := (puts_str pu nd2).trans es1
      obtain ⟨kR, _, cR⟩ := same_tab sh5.rn py er2
      obtain ⟨kS, _, cS⟩ := same_tab sh5.sn pz es2
      have rc1 : RelC R1 := relC_of (P := fun c => ∃ u r, c = [u, .int r]) py er2 fun e m => by
        obtain ⟨c, cols, r, h, _⟩ := sh5.rc e m
        exact ⟨_, _, h⟩
      have sc1 : StrC S1 := relC_of (P := fun c => ∃ u v b s, c = [u, v, .int b, .int s] ∧ 0 ≤ b ∧ b ≤ 1000) pz es2 sh5.sc
      have lys : ys.length = R.length := by rw [py.length_eq, List.length_map]
      have lzs : zs.length = S.length := by rw [pz.length_eq, List.length_map]
      have lR1 : R1.length = R.length := by
        have := congrArg List.length kR
        rw [List.length_map, List.length_reverse] at this
        omega
      have lS1 : S1.length = S.length := by
        have := congrArg List.length kS
        rw [List.length_map, List.length_reverse] at this
        omega
      have rmE : ∀ n ∈ ys, roomOf R1 n = roomOf R n := fun n m => by rw [roomOf_eq, roomOf_eq, cR n m]
      have szE : ∀ n ∈ zs, sizeOf2 S1 n = sizeOf2 S n := fun n m => by rw [sizeOf_eq, sizeOf_eq, cS n m]
      have sh8 := sh5.same s8
      clear sh5 els5 eip iok iok7 e7 gw8 nx ndx nrp nip s6 s7 s8 pu er es er1 es1 nd1 nd2 rg5
      -- the law's table
      refine fun du ndu => ?_
      have s9 := Same.new (o := .dT []) ndu
      have e9 := upd_same (H := H8) (a := du) (o := .dT [])
      have sh9 := sh8.same s9
      generalize (upd H8 du (.dT [])) = H9 at *
      refine ⟨_, rfl, dr, kvR R, rfl, .inl sh9.r, fun l0 nl0 => ?_⟩
      rw [kv_names]
      have s10 := Same.new (o := .lst ((R.map (·.1)).map V.str)) nl0
      have e10 := upd_same (H := H9) (a := l0) (o := .lst ((R.map (·.1)).map V.str))
      generalize (upd H9 l0 (.lst ((R.map (·.1)).map V.str))) = H10 at *
      refine ⟨l0, R.map (·.1), rfl, SqL.of e10, by rw [List.length_map]; omega, fun ys2 yp py2 sy2 nyp => ?_⟩
      have eys : ys2 = ys := sortedS_one sy2 sy (py2.trans py.symm)
      subst eys
      have s11 := s10.trans (Same.new (o := .lst (ys2.map V.str)) nyp)
      have e11 := upd_same (H := H10) (a := yp) (o := .lst (ys2.map V.str))
      generalize (upd H10 yp (.lst (ys2.map V.str))) = H11 at *
      have s811 := s9.trans s11
      have edu11 := s11 _ _ e9
      have nyd : yp ≠ du := fun z => by rw [z, s10 _ _ e9] at nyp; cases nyp
      refine ⟨yp, rfl, ⟨_, SqL.of e11⟩, for_list (K := K) (a := yp) (xs := ys2.map V.str) (fun i σ H4 => ∃ y6 : Option V, σ = [some (.ref a), some (.ref p), some (.ref ls), some (.ref dr), some (.ref ds), y5, y6, some (.ref ip), some (.ref x), some (.ref du), some (.int (pl1 (roomOf R) (ys2.take i)).2), none] ∧
          Same H8 H4 ∧ H4 du = some (.dT (pl1 (roomOf R) (ys2.take i)).1) ∧ H4 yp = some (.lst (ys2.map V.str)))
        ⟨y6, rfl, s811, edu11, e11⟩ (fun i σ H4 _ hP => ?_) (fun i y σ H4 hy hP => ?_) (fun σ H4 hP => ?_)⟩
      · obtain ⟨_, _, _, _, h⟩ := hP
        exact SqL.of h
      · obtain ⟨y6, rfl, s4, eo, ey⟩ := hP
        obtain ⟨n, en, rfl⟩ := strs_get hy
        have mn : n ∈ R.map (·.1) := py.mem_iff.mp (List.mem_of_getElem? en)
        obtain ⟨qa, c, ec, m⟩ := mem_val mn
        have sh4 := sh8.same s4
        obtain ⟨cc, cols, r, erc, _, _⟩ := sh4.rc _ m
        have erc' : c = [.ref cc, .int r] := erc
        subst erc'
        have ll := pl_len "relation" (roomOf R) (ys2.take i) ([], 0)
        have ll2 : (ys2.take i).length ≤ 64 := by rw [List.length_take]; omega
        refine ⟨_, rfl, _, rfl, _, rfl, sz 2, fun t nt => ?_⟩
        have s5 := Same.new (o := .tup [V.str "relation", .str n]) nt
        have dp := DPut.t (k := [Sum.inr "relation", Sum.inr n]) (v := .int (pl1 (roomOf R) (ys2.take i)).2) (s5 _ _ eo) upd_same (by
          refine small (m := 1000) ?_ (by decide)
          show (pl1 (roomOf R) (ys2.take i)).1.length ≤ 1000
          unfold pl1
          have : (([], 0) : List (List Key × V) × Int).1.length = 0 := rfl
          omega)
        refine ⟨du, _, rfl, dp, ?_⟩
        have s6 : Same H8 (upd (upd H4 t (.tup [V.str "relation", .str n])) du (.dT (putK (pl1 (roomOf R) (ys2.take i)).1 [Sum.inr "relation", Sum.inr n] (.int (pl1 (roomOf R) (ys2.take i)).2)))) := Same.over (s4.trans s5) ndu
        have yo6 := s5 _ _ ey
        have e6 := upd_same (H := upd H4 t (.tup [V.str "relation", .str n])) (a := du) (o := .dT (putK (pl1 (roomOf R) (ys2.take i)).1 [Sum.inr "relation", Sum.inr n] (.int (pl1 (roomOf R) (ys2.take i)).2)))
        have y6' : (upd (upd H4 t (.tup [V.str "relation", .str n])) du (.dT (putK (pl1 (roomOf R) (ys2.take i)).1 [Sum.inr "relation", Sum.inr n] (.int (pl1 (roomOf R) (ys2.take i)).2)))) yp = some (.lst (ys2.map V.str)) := by
          rw [upd_ne nyd]; exact yo6
        generalize (upd (upd H4 t (.tup [V.str "relation", .str n])) du (.dT (putK (pl1 (roomOf R) (ys2.take i)).1 [Sum.inr "relation", Sum.inr n] (.int (pl1 (roomOf R) (ys2.take i)).2)))) = H6 at *
        have sh6 := sh8.same s6
        refine ⟨_, rfl, _, rfl, _, rfl, dr, _, rfl, dget_n (.inl sh6.r) ec, qa, _, 1, .int r, rfl, rfl, sh6.rt _ m, at_of (j := 1) rfl rfl, _, r, rfl, rfl, ?_⟩
        have ef : pl1 (roomOf R) (ys2.take (i + 1)) = plStep "relation" (roomOf R) (pl1 (roomOf R) (ys2.take i)) n := by
          unfold pl1
          rw [take_snoc' en, List.foldl_append]
          rfl
        refine ⟨some (V.str n), ?_, s6, ?_, y6'⟩
        · rw [ef]
          unfold plStep
          rw [room_eq ec]
          rfl
        · rw [ef]
          exact e6
      obtain ⟨y6, rfl, s12, edu12, _⟩ := hP
      rw [List.length_map, List.take_length] at edu12 ⊢
      have sh12 := sh8.same s12
      clear e11 s11 s811 edu11 s9 sh9 e9 s10 e10 nl0 nyp nyd py2 sy2
      -- the structures
      refine ⟨_, rfl, ds, kvR S, rfl, .inl sh12.s, fun l0 nl0 => ?_⟩
      rw [kv_names]
      have s13 := Same.new (o := .lst ((S.map (·.1)).map V.str)) nl0
      have e13 := upd_same (H := H4) (a := l0) (o := .lst ((S.map (·.1)).map V.str))
      generalize (upd H4 l0 (.lst ((S.map (·.1)).map V.str))) = H13 at *
      refine ⟨l0, S.map (·.1), rfl, SqL.of e13, by rw [List.length_map]; omega, fun zs2 zp pz2 sz2 nzp => ?_⟩
      have ezs : zs2 = zs := sortedS_one sz2 sz' (pz2.trans pz.symm)
      subst ezs
      have s14 := s13.trans (Same.new (o := .lst (zs2.map V.str)) nzp)
      have e14 := upd_same (H := H13) (a := zp) (o := .lst (zs2.map V.str))
      generalize (upd H13 zp (.lst (zs2.map V.str))) = H14 at *
      have s814 := s12.trans s14
      have edu14 := s14 _ _ edu12
      have nzd : zp ≠ du := fun z => by rw [z, s13 _ _ edu12] at nzp; cases nzp
      refine ⟨zp, rfl, ⟨_, SqL.of e14⟩, for_list (K := K) (a := zp) (xs := zs2.map V.str) (fun i σ H4 => ∃ y6 : Option V, σ = [some (.ref a), some (.ref p), some (.ref ls), some (.ref dr), some (.ref ds), y5, y6, some (.ref ip), some (.ref x), some (.ref du), some (.int (pl2 (roomOf R) (sizeOf2 S) ys2 (zs2.take i)).2), none] ∧
          Same H8 H4 ∧ H4 du = some (.dT (pl2 (roomOf R) (sizeOf2 S) ys2 (zs2.take i)).1) ∧ H4 zp = some (.lst (zs2.map V.str)))
        ⟨y6, rfl, s814, edu14, e14⟩ (fun i σ H4 _ hP => ?_) (fun i y σ H4 hy hP => ?_) (fun σ H15 hP => ?_)⟩
      · obtain ⟨_, _, _, _, h⟩ := hP
        exact SqL.of h
      · obtain ⟨y6, rfl, s4, eo, ey⟩ := hP
        obtain ⟨n, en, rfl⟩ := strs_get hy
        have mn : n ∈ S.map (·.1) := pz.mem_iff.mp (List.mem_of_getElem? en)
        obtain ⟨qa, c, ec, m⟩ := mem_val mn
        have sh4 := sh8.same s4
        obtain ⟨u', v', b', w', erc, b0, b1⟩ := sh4.sc _ m
        have erc' : c = [u', v', .int b', .int w'] := erc
        subst erc'
        have ll := pl_len "structure" (sizeOf2 S) (zs2.take i) (pl1 (roomOf R) ys2)
        have ll1 := pl_len "relation" (roomOf R) ys2 ([], 0)
        have ll2 : (zs2.take i).length ≤ 64 := by rw [List.length_take]; omega
        refine ⟨_, rfl, _, rfl, _, rfl, sz 2, fun t nt => ?_⟩
        have s5 := Same.new (o := .tup [V.str "structure", .str n]) nt
        have dp := DPut.t (k := [Sum.inr "structure", Sum.inr n]) (v := .int (pl2 (roomOf R) (sizeOf2 S) ys2 (zs2.take i)).2) (s5 _ _ eo) upd_same (by
          refine small (m := 1000) ?_ (by decide)
          show (pl2 (roomOf R) (sizeOf2 S) ys2 (zs2.take i)).1.length ≤ 1000
          have l3 : (pl2 (roomOf R) (sizeOf2 S) ys2 (zs2.take i)).1.length ≤ (pl1 (roomOf R) ys2).1.length + (zs2.take i).length := ll
          have l4 : (pl1 (roomOf R) ys2).1.length ≤ ([] : List (List Key × V)).length + ys2.length := ll1
          have : ([] : List (List Key × V)).length = 0 := rfl
          omega)
        refine ⟨du, _, rfl, dp, ?_⟩
        have s6 : Same H8 (upd (upd H4 t (.tup [V.str "structure", .str n])) du (.dT (putK (pl2 (roomOf R) (sizeOf2 S) ys2 (zs2.take i)).1 [Sum.inr "structure", Sum.inr n] (.int (pl2 (roomOf R) (sizeOf2 S) ys2 (zs2.take i)).2)))) := Same.over (s4.trans s5) ndu
        have yo6 := s5 _ _ ey
        have e6 := upd_same (H := upd H4 t (.tup [V.str "structure", .str n])) (a := du) (o := .dT (putK (pl2 (roomOf R) (sizeOf2 S) ys2 (zs2.take i)).1 [Sum.inr "structure", Sum.inr n] (.int (pl2 (roomOf R) (sizeOf2 S) ys2 (zs2.take i)).2)))
        have y6' : (upd (upd H4 t (.tup [V.str "structure", .str n])) du (.dT (putK (pl2 (roomOf R) (sizeOf2 S) ys2 (zs2.take i)).1 [Sum.inr "structure", Sum.inr n] (.int (pl2 (roomOf R) (sizeOf2 S) ys2 (zs2.take i)).2)))) zp = some (.lst (zs2.map V.str)) := by
          rw [upd_ne nzd]; exact yo6
        generalize (upd (upd H4 t (.tup [V.str "structure", .str n])) du (.dT (putK (pl2 (roomOf R) (sizeOf2 S) ys2 (zs2.take i)).1 [Sum.inr "structure", Sum.inr n] (.int (pl2 (roomOf R) (sizeOf2 S) ys2 (zs2.take i)).2)))) = H6 at *
        have sh6 := sh8.same s6
        refine ⟨_, rfl, _, rfl, _, rfl, ds, _, rfl, dget_n (.inl sh6.s) ec, qa, _, 2, .int b', rfl, rfl, sh6.st _ m, at_of (j := 2) rfl rfl, ?_⟩
        refine ⟨_, rfl, _, rfl, ds, _, rfl, dget_n (.inl sh6.s) ec, qa, _, 3, .int w', rfl, rfl, sh6.st _ m, at_of (j := 3) rfl rfl, _, _, rfl, rfl, .inl ⟨by omega, by omega⟩, _, _, rfl, rfl, ?_⟩
        have ef : pl2 (roomOf R) (sizeOf2 S) ys2 (zs2.take (i + 1)) = plStep "structure" (sizeOf2 S) (pl2 (roomOf R) (sizeOf2 S) ys2 (zs2.take i)) n := by
          unfold pl2
          rw [take_snoc' en, List.foldl_append]
          rfl
        refine ⟨some (V.str n), ?_, s6, ?_, y6'⟩
        · rw [ef]
          unfold plStep
          rw [size_eq ec]
          rfl
        · rw [ef]
          exact e6
      obtain ⟨y6, rfl, s15, edu15, _⟩ := hP
      rw [List.length_map, List.take_length] at edu15 ⊢
      have st15 := st8.same s15
      clear e14 s14 s814 edu14 s13 e13 nl0 nzp nzd pz2 sz2 s12 edu12 sh12 sh8
      -- places
      have pe2 : pl2 (roomOf R1) (sizeOf2 S1) ys2 zs2 = pl2 (roomOf R) (sizeOf2 S) ys2 zs2 := pl2_congr rmE szE
      have py1 : ys2.Perm (R1.map (·.1)) := by rw [kR]; exact (List.reverse_perm _).symm
      have pz1 : zs2.Perm (S1.map (·.1)) := by rw [kS]; exact (List.reverse_perm _).symm
      have sumE : ((R1.map (·.1)).map (roomOf R1)).sum + ((S1.map (·.1)).map (sizeOf2 S1)).sum = (pl2 (roomOf R) (sizeOf2 S) ys2 zs2).2 := by
        rw [← pe2, pl2_sum, perm_sum (py1.symm.map (roomOf R1)), perm_sum (pz1.symm.map (sizeOf2 S1))]
      refine ⟨_, rfl, x, ar, af, as_, al, Z, R1, S1, F1, L1, 300, rfl, st15, rc1, sc1, by omega, by omega, fun ys3 zs3 tp H16 py3 sy3 pz3 sz3 s16 ntp etp => ?_⟩
      have eys : ys3 = ys2 := sortedS_one sy3 sy (py3.trans py1.symm)
      subst eys
      have ezs : zs3 = zs2 := sortedS_one sz3 sz' (pz3.trans pz1.symm)
      subst ezs
      rw [pe2] at etp
      have edu16 := s16 _ _ edu15
      have ntd : tp ≠ du := fun z => by rw [z, edu15] at ntp; cases ntp
      have allI := pl2_ints (roomOf R) (sizeOf2 S) ys3 zs3
      have plen : (pl2 (roomOf R) (sizeOf2 S) ys3 zs3).1.length ≤ 500 := by
        have l3 : (pl2 (roomOf R) (sizeOf2 S) ys3 zs3).1.length ≤ (pl1 (roomOf R) ys3).1.length + zs3.length := pl_len "structure" (sizeOf2 S) zs3 (pl1 (roomOf R) ys3)
        have l4 : (pl1 (roomOf R) ys3).1.length ≤ ([] : List (List Key × V)).length + ys3.length := pl_len "relation" (roomOf R) ys3 ([], 0)
        have : ([] : List (List Key × V)).length = 0 := rfl
        omega
      generalize (pl2 (roomOf R) (sizeOf2 S) ys3 zs3) = pk at *
      -- the first question
      refine ⟨_, rfl, _, _, .type "dict", .type "dict", true, rfl, .ty _, .base (.dT etp), kit_ty (by decide +kernel), ?_⟩
      refine ⟨_, rfl, ?_⟩
      refine iteF ?_
      refine ⟨_, rfl, _, rfl, tp, du, _, rfl, etp, edu16, ntd, allI, ?_⟩
      rintro z17 H17 rfl s17
      refine ⟨_, rfl, ?_⟩
      refine iteF ?_
      refine ⟨_, rfl, x, ar, af, as_, al, Z, R1, S1, F1, L1, 300, rfl, st15.same (s16.trans s17), rc1, sc1, by omega, by omega, fun H18 s18 => ?_⟩
      rw [sumE]
      refine ⟨_, rfl, _, _, .int pk.2, rfl, .int _, .int _, by simp [ist], by simp [PyData.depth], ?_⟩
      rintro z19 H19 rfl s19
      refine ⟨_, rfl, ?_⟩
      refine iteF ?_
      have s1619 := (s17.trans s18).trans s19
      have s1519 := s16.trans s1619
      have etp19 := s1619 _ _ etp
      -- told is changed
      refine ⟨_, rfl, sz 2, fun t nt => ?_⟩
      have s20 := Same.new (o := .tup [V.str "relation", .str "zz"]) nt
      have dp := DPut.t (k := [Sum.inr "relation", Sum.inr "zz"]) (v := .int 3) (s20 _ _ etp19) upd_same (small (m := 1000) (by omega) (by decide))
      refine ⟨tp, _, rfl, dp, ?_⟩
      have s21 : Same H15 (upd (upd H19 t (.tup [V.str "relation", .str "zz"])) tp (.dT (putK pk.1 [Sum.inr "relation", Sum.inr "zz"] (.int 3)))) := Same.over (s1519.trans s20) ntp
      generalize (upd (upd H19 t (.tup [V.str "relation", .str "zz"])) tp (.dT (putK pk.1 [Sum.inr "relation", Sum.inr "zz"] (.int 3)))) = H21 at *
      have st21 := st15.same s21
      have edu21 := s21 _ _ edu15
      clear dp etp19 s1519 s1619 s20 s19 s18 s17 s16 etp edu16 ntd ntp nt
      refine ⟨_, rfl, x, ar, af, as_, al, Z, R1, S1, F1, L1, 300, rfl, st21, rc1, sc1, by omega, by omega, fun ys4 zs4 up H22 py4 sy4 pz4 sz4 s22 nup eup => ?_⟩
      have eys : ys4 = ys3 := sortedS_one sy4 sy (py4.trans py1.symm)
      subst eys
      have ezs : zs4 = zs3 := sortedS_one sz4 sz' (pz4.trans pz1.symm)
      subst ezs
      rw [pe2] at eup
      have edu22 := s22 _ _ edu21
      have nud : up ≠ du := fun z => by rw [z, edu21] at nup; cases nup
      refine ⟨_, rfl, up, du, _, rfl, eup, edu22, nud, allI, ?_⟩
      rintro z23 H23 rfl s23
      refine ⟨_, rfl, iteT ?_⟩
      refine fun x2 dx2 nx2 ndx2 nex2 => ⟨x2, a0, dx2, rfl, upd_same, hA0 _, fun br bf bs bl' H24 st24 gw24 => ⟨rfl, ?_⟩⟩
      refine ⟨x2, br, bf, bs, bl', _, [], [], [], [], 300, rfl, st24, (fun _ m => nomatch m), (fun _ m => nomatch m), by decide, by decide, fun H25 s25 => ?_⟩
      refine ⟨_, _, .int 0, rfl, .int _, .int _, by simp [ist], by simp [PyData.depth], ?_⟩
      rintro z26 H26 rfl s26
      exact q _
end
end K1
namespace K1
open PySem PySem.Spec PyProof.Rows L2 Ow
theorem kn_of {P : Program} {w : World} {K : PySem.W.Frag} {mg : Str → Option Value} {base : Heap} {k : Nat} {x qual : Str} {st : Stmt} {f : Addr} {fd : FuncData} {ps : List Str} {sp : Sp}
    (F : Fun K x qual st f fd) (g : mg x = some (.ref f)) (b : Binds K fd ps []) (ok : FnOk P w K mg base CX0 k f fd ps sp) : Kn P w K mg base k x ps sp := ⟨⟨f, fd, ok, g, F.kp, b⟩⟩
theorem all_mk {l : PySem.W.OpenLaw} {w : World} {K : PySem.W.Frag} {h : Heap} {mg : Str → Option Value} {fa : Addr} (X : K.In h) (G : h.Ns mainGlobals mg) (hfa : mg "law" = some (.ref fa))
    {f1 : Addr} {od1 an1 : Option Addr} {sl1 : Array (Option Value)} {oc1 kV1 dc1 pm1 cd1 ct1 : Value}
    {f2 : Addr} {od2 an2 : Option Addr} {sl2 : Array (Option Value)} {oc2 kV2 dc2 pm2 cd2 ct2 : Value}
    {f3 : Addr} {od3 an3 : Option Addr} {sl3 : Array (Option Value)} {oc3 kV3 dc3 pm3 cd3 ct3 : Value}
    {f4 : Addr} {od4 an4 : Option Addr} {sl4 : Array (Option Value)} {oc4 kV4 dc4 pm4 cd4 ct4 : Value}
    {f5 : Addr} {od5 an5 : Option Addr} {sl5 : Array (Option Value)} {oc5 kV5 dc5 pm5 cd5 ct5 : Value}
    {f6 : Addr} {od6 an6 : Option Addr} {sl6 : Array (Option Value)} {oc6 kV6 dc6 pm6 cd6 ct6 : Value}
    {f7 : Addr} {od7 an7 : Option Addr} {sl7 : Array (Option Value)} {oc7 kV7 dc7 pm7 cd7 ct7 : Value}
    {f8 : Addr} {od8 an8 : Option Addr} {sl8 : Array (Option Value)} {oc8 kV8 dc8 pm8 cd8 ct8 : Value}
    {f9 : Addr} {od9 an9 : Option Addr} {sl9 : Array (Option Value)} {oc9 kV9 dc9 pm9 cd9 ct9 : Value}
    {f10 : Addr} {od10 an10 : Option Addr} {sl10 : Array (Option Value)} {oc10 kV10 dc10 pm10 cd10 ct10 : Value}
    {f11 : Addr} {od11 an11 : Option Addr} {sl11 : Array (Option Value)} {oc11 kV11 dc11 pm11 cd11 ct11 : Value}
    {f12 : Addr} {od12 an12 : Option Addr} {sl12 : Array (Option Value)} {oc12 kV12 dc12 pm12 cd12 ct12 : Value}
    {f13 : Addr} {od13 an13 : Option Addr} {sl13 : Array (Option Value)} {oc13 kV13 dc13 pm13 cd13 ct13 : Value}
    {f14 : Addr} {od14 an14 : Option Addr} {sl14 : Array (Option Value)} {oc14 kV14 dc14 pm14 cd14 ct14 : Value}
    {f15 : Addr} {od15 an15 : Option Addr} {sl15 : Array (Option Value)} {oc15 kV15 dc15 pm15 cd15 ct15 : Value}
    {f16 : Addr} {od16 an16 : Option Addr} {sl16 : Array (Option Value)} {oc16 kV16 dc16 pm16 cd16 ct16 : Value}
    {f17 : Addr} {od17 an17 : Option Addr} {sl17 : Array (Option Value)} {oc17 kV17 dc17 pm17 cd17 ct17 : Value}
    {f18 : Addr} {od18 an18 : Option Addr} {sl18 : Array (Option Value)} {oc18 kV18 dc18 pm18 cd18 ct18 : Value}
    {f19 : Addr} {od19 an19 : Option Addr} {sl19 : Array (Option Value)} {oc19 kV19 dc19 pm19 cd19 ct19 : Value}
    {f20 : Addr} {od20 an20 : Option Addr} {sl20 : Array (Option Value)} {oc20 kV20 dc20 pm20 cd20 ct20 : Value}
    {f21 : Addr} {od21 an21 : Option Addr} {sl21 : Array (Option Value)} {oc21 kV21 dc21 pm21 cd21 ct21 : Value}
    {f22 : Addr} {od22 an22 : Option Addr} {sl22 : Array (Option Value)} {oc22 kV22 dc22 pm22 cd22 ct22 : Value}
    {f23 : Addr} {od23 an23 : Option Addr} {sl23 : Array (Option Value)} {oc23 kV23 dc23 pm23 cd23 ct23 : Value}
    {f24 : Addr} {od24 an24 : Option Addr} {sl24 : Array (Option Value)} {oc24 kV24 dc24 pm24 cd24 ct24 : Value}
    {f25 : Addr} {od25 an25 : Option Addr} {sl25 : Array (Option Value)} {oc25 kV25 dc25 pm25 cd25 ct25 : Value}
    (a1 : PySem.W.nsIn K mainGlobals "value_key" = some (some (.ref f1)))
    (l1 : K.lookup f1 = some ⟨oc1, od1, .func (PySem.W.fnOf "value_key" "value_key" (defArgs svalue_key) (defBody svalue_key) (defScope svalue_key) .none kV1 dc1 pm1 an1 cd1 ct1), sl1⟩) (c1 : PySem.W.codeIn K cd1 "value_key" = true) (k1 : PySem.W.keepIn K (.ref f1) = true)
    (a2 : PySem.W.nsIn K mainGlobals "row_key" = some (some (.ref f2)))
    (l2 : K.lookup f2 = some ⟨oc2, od2, .func (PySem.W.fnOf "row_key" "row_key" (defArgs srow_key) (defBody srow_key) (defScope srow_key) .none kV2 dc2 pm2 an2 cd2 ct2), sl2⟩) (c2 : PySem.W.codeIn K cd2 "row_key" = true) (k2 : PySem.W.keepIn K (.ref f2) = true)
    (a3 : PySem.W.nsIn K mainGlobals "place_of" = some (some (.ref f3)))
    (l3 : K.lookup f3 = some ⟨oc3, od3, .func (PySem.W.fnOf "place_of" "place_of" (defArgs splace_of) (defBody splace_of) (defScope splace_of) .none kV3 dc3 pm3 an3 cd3 ct3), sl3⟩) (c3 : PySem.W.codeIn K cd3 "place_of" = true) (k3 : PySem.W.keepIn K (.ref f3) = true)
    (a4 : PySem.W.nsIn K mainGlobals "put_fact" = some (some (.ref f4)))
    (l4 : K.lookup f4 = some ⟨oc4, od4, .func (PySem.W.fnOf "put_fact" "put_fact" (defArgs sput_fact) (defBody sput_fact) (defScope sput_fact) .none kV4 dc4 pm4 an4 cd4 ct4), sl4⟩) (c4 : PySem.W.codeIn K cd4 "put_fact" = true) (k4 : PySem.W.keepIn K (.ref f4) = true)
    (a5 : PySem.W.nsIn K mainGlobals "put_item" = some (some (.ref f5)))
    (l5 : K.lookup f5 = some ⟨oc5, od5, .func (PySem.W.fnOf "put_item" "put_item" (defArgs sput_item) (defBody sput_item) (defScope sput_item) .none kV5 dc5 pm5 an5 cd5 ct5), sl5⟩) (c5 : PySem.W.codeIn K cd5 "put_item" = true) (k5 : PySem.W.keepIn K (.ref f5) = true)
    (a6 : PySem.W.nsIn K mainGlobals "room_of" = some (some (.ref f6)))
    (l6 : K.lookup f6 = some ⟨oc6, od6, .func (PySem.W.fnOf "room_of" "room_of" (defArgs sroom_of) (defBody sroom_of) (defScope sroom_of) .none kV6 dc6 pm6 an6 cd6 ct6), sl6⟩) (c6 : PySem.W.codeIn K cd6 "room_of" = true) (k6 : PySem.W.keepIn K (.ref f6) = true)
    (a7 : PySem.W.nsIn K mainGlobals "all_names" = some (some (.ref f7)))
    (l7 : K.lookup f7 = some ⟨oc7, od7, .func (PySem.W.fnOf "all_names" "all_names" (defArgs sall_names) (defBody sall_names) (defScope sall_names) .none kV7 dc7 pm7 an7 cd7 ct7), sl7⟩) (c7 : PySem.W.codeIn K cd7 "all_names" = true) (k7 : PySem.W.keepIn K (.ref f7) = true)
    (a8 : PySem.W.nsIn K mainGlobals "places" = some (some (.ref f8)))
    (l8 : K.lookup f8 = some ⟨oc8, od8, .func (PySem.W.fnOf "places" "places" (defArgs splaces) (defBody splaces) (defScope splaces) .none kV8 dc8 pm8 an8 cd8 ct8), sl8⟩) (c8 : PySem.W.codeIn K cd8 "places" = true) (k8 : PySem.W.keepIn K (.ref f8) = true)
    (a9 : PySem.W.nsIn K mainGlobals "room_needed" = some (some (.ref f9)))
    (l9 : K.lookup f9 = some ⟨oc9, od9, .func (PySem.W.fnOf "room_needed" "room_needed" (defArgs sroom_needed) (defBody sroom_needed) (defScope sroom_needed) .none kV9 dc9 pm9 an9 cd9 ct9), sl9⟩) (c9 : PySem.W.codeIn K cd9 "room_needed" = true) (k9 : PySem.W.keepIn K (.ref f9) = true)
    (a10 : PySem.W.nsIn K mainGlobals "_law_mix" = some (some (.ref f10)))
    (l10 : K.lookup f10 = some ⟨oc10, od10, .func (PySem.W.fnOf "_law_mix" "_law_mix" (defArgs s_law_mix) (defBody s_law_mix) (defScope s_law_mix) .none kV10 dc10 pm10 an10 cd10 ct10), sl10⟩) (c10 : PySem.W.codeIn K cd10 "_law_mix" = true) (k10 : PySem.W.keepIn K (.ref f10) = true)
    (a11 : PySem.W.nsIn K mainGlobals "_law_draws" = some (some (.ref f11)))
    (l11 : K.lookup f11 = some ⟨oc11, od11, .func (PySem.W.fnOf "_law_draws" "_law_draws" (defArgs s_law_draws) (defBody s_law_draws) (defScope s_law_draws) .none kV11 dc11 pm11 an11 cd11 ct11), sl11⟩) (c11 : PySem.W.codeIn K cd11 "_law_draws" = true) (k11 : PySem.W.keepIn K (.ref f11) = true)
    (a12 : PySem.W.nsIn K mainGlobals "_law_at" = some (some (.ref f12)))
    (l12 : K.lookup f12 = some ⟨oc12, od12, .func (PySem.W.fnOf "_law_at" "_law_at" (defArgs s_law_at) (defBody s_law_at) (defScope s_law_at) .none kV12 dc12 pm12 an12 cd12 ct12), sl12⟩) (c12 : PySem.W.codeIn K cd12 "_law_at" = true) (k12 : PySem.W.keepIn K (.ref f12) = true)
    (a13 : PySem.W.nsIn K mainGlobals "_law_is_integer" = some (some (.ref f13)))
    (l13 : K.lookup f13 = some ⟨oc13, od13, .func (PySem.W.fnOf "_law_is_integer" "_law_is_integer" (defArgs s_law_is_integer) (defBody s_law_is_integer) (defScope s_law_is_integer) .none kV13 dc13 pm13 an13 cd13 ct13), sl13⟩) (c13 : PySem.W.codeIn K cd13 "_law_is_integer" = true) (k13 : PySem.W.keepIn K (.ref f13) = true)
    (a14 : PySem.W.nsIn K mainGlobals "_law_same" = some (some (.ref f14)))
    (l14 : K.lookup f14 = some ⟨oc14, od14, .func (PySem.W.fnOf "_law_same" "_law_same" (defArgs s_law_same) (defBody s_law_same) (defScope s_law_same) .none kV14 dc14 pm14 an14 cd14 ct14), sl14⟩) (c14 : PySem.W.codeIn K cd14 "_law_same" = true) (k14 : PySem.W.keepIn K (.ref f14) = true)
    (a15 : PySem.W.nsIn K mainGlobals "_law_is_dict" = some (some (.ref f15)))
    (l15 : K.lookup f15 = some ⟨oc15, od15, .func (PySem.W.fnOf "_law_is_dict" "_law_is_dict" (defArgs s_law_is_dict) (defBody s_law_is_dict) (defScope s_law_is_dict) .none kV15 dc15 pm15 an15 cd15 ct15), sl15⟩) (c15 : PySem.W.codeIn K cd15 "_law_is_dict" = true) (k15 : PySem.W.keepIn K (.ref f15) = true)
    (a16 : PySem.W.nsIn K mainGlobals "_law_next" = some (some (.ref f16)))
    (l16 : K.lookup f16 = some ⟨oc16, od16, .func (PySem.W.fnOf "_law_next" "_law_next" (defArgs s_law_next) (defBody s_law_next) (defScope s_law_next) .none kV16 dc16 pm16 an16 cd16 ct16), sl16⟩) (c16 : PySem.W.codeIn K cd16 "_law_next" = true) (k16 : PySem.W.keepIn K (.ref f16) = true)
    (a17 : PySem.W.nsIn K mainGlobals "_law_text" = some (some (.ref f17)))
    (l17 : K.lookup f17 = some ⟨oc17, od17, .func (PySem.W.fnOf "_law_text" "_law_text" (defArgs s_law_text) (defBody s_law_text) (defScope s_law_text) .none kV17 dc17 pm17 an17 cd17 ct17), sl17⟩) (c17 : PySem.W.codeIn K cd17 "_law_text" = true) (k17 : PySem.W.keepIn K (.ref f17) = true)
    (a18 : PySem.W.nsIn K mainGlobals "_law_value" = some (some (.ref f18)))
    (l18 : K.lookup f18 = some ⟨oc18, od18, .func (PySem.W.fnOf "_law_value" "_law_value" (defArgs s_law_value) (defBody s_law_value) (defScope s_law_value) .none kV18 dc18 pm18 an18 cd18 ct18), sl18⟩) (c18 : PySem.W.codeIn K cd18 "_law_value" = true) (k18 : PySem.W.keepIn K (.ref f18) = true)
    (a19 : PySem.W.nsIn K mainGlobals "_law_first" = some (some (.ref f19)))
    (l19 : K.lookup f19 = some ⟨oc19, od19, .func (PySem.W.fnOf "_law_first" "_law_first" (defArgs s_law_first) (defBody s_law_first) (defScope s_law_first) .none kV19 dc19 pm19 an19 cd19 ct19), sl19⟩) (c19 : PySem.W.codeIn K cd19 "_law_first" = true) (k19 : PySem.W.keepIn K (.ref f19) = true)
    (a20 : PySem.W.nsIn K mainGlobals "_law_order" = some (some (.ref f20)))
    (l20 : K.lookup f20 = some ⟨oc20, od20, .func (PySem.W.fnOf "_law_order" "_law_order" (defArgs s_law_order) (defBody s_law_order) (defScope s_law_order) .none kV20 dc20 pm20 an20 cd20 ct20), sl20⟩) (c20 : PySem.W.codeIn K cd20 "_law_order" = true) (k20 : PySem.W.keepIn K (.ref f20) = true)
    (a21 : PySem.W.nsIn K mainGlobals "_law_sorted" = some (some (.ref f21)))
    (l21 : K.lookup f21 = some ⟨oc21, od21, .func (PySem.W.fnOf "_law_sorted" "_law_sorted" (defArgs s_law_sorted) (defBody s_law_sorted) (defScope s_law_sorted) .none kV21 dc21 pm21 an21 cd21 ct21), sl21⟩) (c21 : PySem.W.codeIn K cd21 "_law_sorted" = true) (k21 : PySem.W.keepIn K (.ref f21) = true)
    (a22 : PySem.W.nsIn K mainGlobals "_law_small" = some (some (.ref f22)))
    (l22 : K.lookup f22 = some ⟨oc22, od22, .func (PySem.W.fnOf "_law_small" "_law_small" (defArgs s_law_small) (defBody s_law_small) (defScope s_law_small) .none kV22 dc22 pm22 an22 cd22 ct22), sl22⟩) (c22 : PySem.W.codeIn K cd22 "_law_small" = true) (k22 : PySem.W.keepIn K (.ref f22) = true)
    (a23 : PySem.W.nsIn K mainGlobals "_law_shelf" = some (some (.ref f23)))
    (l23 : K.lookup f23 = some ⟨oc23, od23, .func (PySem.W.fnOf "_law_shelf" "_law_shelf" (defArgs s_law_shelf) (defBody s_law_shelf) (defScope s_law_shelf) .none kV23 dc23 pm23 an23 cd23 ct23), sl23⟩) (c23 : PySem.W.codeIn K cd23 "_law_shelf" = true) (k23 : PySem.W.keepIn K (.ref f23) = true)
    (a24 : PySem.W.nsIn K mainGlobals "_law_shelf_items" = some (some (.ref f24)))
    (l24 : K.lookup f24 = some ⟨oc24, od24, .func (PySem.W.fnOf "_law_shelf_items" "_law_shelf_items" (defArgs s_law_shelf_items) (defBody s_law_shelf_items) (defScope s_law_shelf_items) .none kV24 dc24 pm24 an24 cd24 ct24), sl24⟩) (c24 : PySem.W.codeIn K cd24 "_law_shelf_items" = true) (k24 : PySem.W.keepIn K (.ref f24) = true)
    (a25 : PySem.W.nsIn K mainGlobals "law" = some (some (.ref f25)))
    (l25 : K.lookup f25 = some ⟨oc25, od25, .func (PySem.W.fnOf "law" "law" (defArgs slaw) (defBody slaw) (defScope slaw) .none kV25 dc25 pm25 an25 cd25 ct25), sl25⟩) (c25 : PySem.W.codeIn K cd25 "law" = true) (k25 : PySem.W.keepIn K (.ref f25) = true)
    {C fI TT A0 : Addr} {odI anI odT : Option Addr} {slI slT slA : Array (Option Value)} {ocI kVI dcI pmI cdI ctI ocT : Value} {nT nA : Nat}
    (aC : PySem.W.nsIn K mainGlobals "State" = some (some (.ref C)))
    (aI : PySem.W.findIn K (.ref C) "__init__" = some (some (.ref fI))) (iI : PySem.W.isFn K (.ref fI) = true)
    (lI : K.lookup fI = some ⟨ocI, odI, .func (PySem.W.fnOf "__init__" "State.__init__" (defArgs sInit) (defBody sInit) (defScope sInit) (.ref TT) kVI dcI pmI anI cdI ctI), slI⟩) (cI : PySem.W.codeIn K cdI "State.__init__" = true) (kI : PySem.W.keepIn K (.ref fI) = true)
    (lT : K.lookup TT = some ⟨ocT, odT, .seq #[.ref A0] nT, slT⟩) (lA : K.lookup A0 = some ⟨.type "tuple", none, .seq #[] nA, slA⟩)
    (pg : PySem.W.plainGet K C Str.empty = true) (hd : PySem.W.hasDictIn K C = true) (po : PySem.W.plainOver K C = true) (sa : PySem.W.findIn K (.ref C) "__setattr__" = some (some (.builtin "object.__setattr__"))) (mk : PySem.W.makesIn K C = true) (kc : PySem.W.keepIn K (.ref C) = true)
    (nR : PySem.W.findIn K (.ref C) "relations" = some none) (nF : PySem.W.findIn K (.ref C) "facts" = some none) (nS : PySem.W.findIn K (.ref C) "structures" = some none) (nL : PySem.W.findIn K (.ref C) "layouts" = some none)
    (z1 : PySem.W.nsIn K mainGlobals "range" = some none) (z2 : PySem.W.nsIn K mainGlobals "len" = some none) (z3 : PySem.W.nsIn K mainGlobals "int" = some none) (z4 : PySem.W.nsIn K mainGlobals "str" = some none) (z5 : PySem.W.nsIn K mainGlobals "bool" = some none) (z6 : PySem.W.nsIn K mainGlobals "list" = some none) (z7 : PySem.W.nsIn K mainGlobals "tuple" = some none) (z8 : PySem.W.nsIn K mainGlobals "dict" = some none) (z9 : PySem.W.nsIn K mainGlobals "isinstance" = some none) (z10 : PySem.W.nsIn K mainGlobals "min" = some none) (z11 : PySem.W.nsIn K mainGlobals "sum" = some none) (z12 : PySem.W.nsIn K mainGlobals "sorted" = some none) :
    ∃ fd : FuncData, (∀ (s : Shared) (v : Value), BindsTo s fd ⟨[v], []⟩ [("script", v)]) ∧ ∀ base : Heap, K.In base → base.Ns mainGlobals mg → FnOk l.prog w K mg base CX0 9 fa fd ["script"] (spLaw K) := by
  have e := hfa.symm.trans (PySem.W.mg_of X G a25)
  cases e
  have F1 := fun_mk (st := svalue_key) l1 c1 k1
  have b1 := F1.binds (ps := ["value"]) fun _ _ _ _ _ _ us hl => match us, hl with | [_], _ => rfl
  have g1 := PySem.W.mg_of X G a1
  have F2 := fun_mk (st := srow_key) l2 c2 k2
  have b2 := F2.binds (ps := ["row"]) fun _ _ _ _ _ _ us hl => match us, hl with | [_], _ => rfl
  have g2 := PySem.W.mg_of X G a2
  have F3 := fun_mk (st := splace_of) l3 c3 k3
  have b3 := F3.binds (ps := ["rows", "row"]) fun _ _ _ _ _ _ us hl => match us, hl with | [_, _], _ => rfl
  have g3 := PySem.W.mg_of X G a3
  have F4 := fun_mk (st := sput_fact) l4 c4 k4
  have b4 := F4.binds (ps := ["state", "name", "row"]) fun _ _ _ _ _ _ us hl => match us, hl with | [_, _, _], _ => rfl
  have g4 := PySem.W.mg_of X G a4
  have F5 := fun_mk (st := sput_item) l5 c5 k5
  have b5 := F5.binds (ps := ["state", "item"]) fun _ _ _ _ _ _ us hl => match us, hl with | [_, _], _ => rfl
  have g5 := PySem.W.mg_of X G a5
  have F6 := fun_mk (st := sroom_of) l6 c6 k6
  have b6 := F6.binds (ps := ["state", "name"]) fun _ _ _ _ _ _ us hl => match us, hl with | [_, _], _ => rfl
  have g6 := PySem.W.mg_of X G a6
  have F7 := fun_mk (st := sall_names) l7 c7 k7
  have b7 := F7.binds (ps := ["state"]) fun _ _ _ _ _ _ us hl => match us, hl with | [_], _ => rfl
  have g7 := PySem.W.mg_of X G a7
  have F8 := fun_mk (st := splaces) l8 c8 k8
  have b8 := F8.binds (ps := ["state"]) fun _ _ _ _ _ _ us hl => match us, hl with | [_], _ => rfl
  have g8 := PySem.W.mg_of X G a8
  have F9 := fun_mk (st := sroom_needed) l9 c9 k9
  have b9 := F9.binds (ps := ["state"]) fun _ _ _ _ _ _ us hl => match us, hl with | [_], _ => rfl
  have g9 := PySem.W.mg_of X G a9
  have F10 := fun_mk (st := s_law_mix) l10 c10 k10
  have b10 := F10.binds (ps := ["cell", "k"]) fun _ _ _ _ _ _ us hl => match us, hl with | [_, _], _ => rfl
  have g10 := PySem.W.mg_of X G a10
  have F11 := fun_mk (st := s_law_draws) l11 c11 k11
  have b11 := F11.binds (ps := ["script"]) fun _ _ _ _ _ _ us hl => match us, hl with | [_], _ => rfl
  have g11 := PySem.W.mg_of X G a11
  have F12 := fun_mk (st := s_law_at) l12 c12 k12
  have b12 := F12.binds (ps := ["draws", "index"]) fun _ _ _ _ _ _ us hl => match us, hl with | [_, _], _ => rfl
  have g12 := PySem.W.mg_of X G a12
  have F13 := fun_mk (st := s_law_is_integer) l13 c13 k13
  have b13 := F13.binds (ps := ["actual"]) fun _ _ _ _ _ _ us hl => match us, hl with | [_], _ => rfl
  have g13 := PySem.W.mg_of X G a13
  have F14 := fun_mk (st := s_law_same) l14 c14 k14
  have b14 := F14.binds (ps := ["actual", "expected"]) fun _ _ _ _ _ _ us hl => match us, hl with | [_, _], _ => rfl
  have g14 := PySem.W.mg_of X G a14
  have F15 := fun_mk (st := s_law_is_dict) l15 c15 k15
  have b15 := F15.binds (ps := ["actual", "expected"]) fun _ _ _ _ _ _ us hl => match us, hl with | [_, _], _ => rfl
  have g15 := PySem.W.mg_of X G a15
  have F16 := fun_mk (st := s_law_next) l16 c16 k16
  have b16 := F16.binds (ps := ["state", "limit"]) fun _ _ _ _ _ _ us hl => match us, hl with | [_, _], _ => rfl
  have g16 := PySem.W.mg_of X G a16
  have F17 := fun_mk (st := s_law_text) l17 c17 k17
  have b17 := F17.binds (ps := ["state", "most"]) fun _ _ _ _ _ _ us hl => match us, hl with | [_, _], _ => rfl
  have g17 := PySem.W.mg_of X G a17
  have F18 := fun_mk (st := s_law_value) l18 c18 k18
  have b18 := F18.binds (ps := ["state"]) fun _ _ _ _ _ _ us hl => match us, hl with | [_], _ => rfl
  have g18 := PySem.W.mg_of X G a18
  have F19 := fun_mk (st := s_law_first) l19 c19 k19
  have b19 := F19.binds (ps := ["one", "other"]) fun _ _ _ _ _ _ us hl => match us, hl with | [_, _], _ => rfl
  have g19 := PySem.W.mg_of X G a19
  have F20 := fun_mk (st := s_law_order) l20 c20 k20
  have b20 := F20.binds (ps := ["first", "second"]) fun _ _ _ _ _ _ us hl => match us, hl with | [_, _], _ => rfl
  have g20 := PySem.W.mg_of X G a20
  have F21 := fun_mk (st := s_law_sorted) l21 c21 k21
  have b21 := F21.binds (ps := ["rows"]) fun _ _ _ _ _ _ us hl => match us, hl with | [_], _ => rfl
  have g21 := PySem.W.mg_of X G a21
  have F22 := fun_mk (st := s_law_small) l22 c22 k22
  have b22 := F22.binds (ps := ["state"]) fun _ _ _ _ _ _ us hl => match us, hl with | [_], _ => rfl
  have g22 := PySem.W.mg_of X G a22
  have F23 := fun_mk (st := s_law_shelf) l23 c23 k23
  have b23 := F23.binds (ps := ["state", "most"]) fun _ _ _ _ _ _ us hl => match us, hl with | [_, _], _ => rfl
  have g23 := PySem.W.mg_of X G a23
  have F24 := fun_mk (st := s_law_shelf_items) l24 c24 k24
  have b24 := F24.binds (ps := ["shelf"]) fun _ _ _ _ _ _ us hl => match us, hl with | [_], _ => rfl
  have g24 := PySem.W.mg_of X G a24
  have F25 := fun_mk (st := slaw) l25 c25 k25
  have T : Bl mg := ⟨PySem.W.mg_none_of X G z1, PySem.W.mg_none_of X G z2, PySem.W.mg_none_of X G z3, PySem.W.mg_none_of X G z4, PySem.W.mg_none_of X G z5, PySem.W.mg_none_of X G z6, PySem.W.mg_none_of X G z7, PySem.W.mg_none_of X G z8, PySem.W.mg_none_of X G z9, PySem.W.mg_none_of X G z10, PySem.W.mg_none_of X G z11, PySem.W.mg_none_of X G z12⟩
  have X : Txt K mg C := ⟨⟨pg, hd, po, sa⟩, nR, nF, nS, nL, PySem.W.mg_of X G aC⟩
  have FI : FunD K "__init__" "State.__init__" (defArgs sInit) (defBody sInit) (defScope sInit) [V.ref A0] [] fI (PySem.W.fnOf "__init__" "State.__init__" (defArgs sInit) (defBody sInit) (defScope sInit) (.ref TT) kVI dcI pmI anI cdI ctI) :=
    ⟨⟨ocI, odI, .ref TT, kVI, dcI, pmI, anI, cdI, ctI, slI, rfl, lI, cI, .inr ⟨by simp, TT, _, [.ref A0], nT, rfl, lT, rfl, .cons rfl .nil⟩, .inl rfl⟩, kI⟩
  obtain ⟨d1, v1, bI⟩ := FI.binds1 (ps := ["self", "items"]) 2 1 (by simp) rfl fun T kV doc pm an cdv ct us its hu hi => match us, its, hu, hi with | [_, _], [_], _, _ => ⟨_, rfl, rfl⟩
  obtain ⟨d0, v0, bI0⟩ := FI.binds1 (ps := ["self", "items"]) 1 0 (by simp) rfl fun T kV doc pm an cdv ct us its hu hi => match us, its, hu, hi with | [_], [_], _, _ => ⟨_, rfl, rfl⟩
  have e1 : d1 = [] := by cases v1; rfl
  subst e1
  have hA0 : ∀ H : Hp, SqT K H A0 [] := fun H => .inr ⟨_, #[], nA, lA, rfl, rfl, Nat.zero_le _, .nil⟩
  refine ⟨PySem.W.fnOf "law" "law" (defArgs slaw) (defBody slaw) (defScope slaw) .none kV25 dc25 pm25 an25 cd25 ct25, fun s v => .of_eq rfl, fun base _ _ => ?_⟩
  have Dvalue_key : Kn l.prog w K mg base 1 "value_key" ["value"] (spVKey K) := kn_of F1 g1 b1 (ok_vkey F1 T)
  have Drow_key : Kn l.prog w K mg base 2 "row_key" ["row"] (spRKey K) := kn_of F2 g2 b2 (ok_rkey F2 T Dvalue_key)
  have Dplace_of : Kn l.prog w K mg base 3 "place_of" ["rows", "row"] (spPlace K) := kn_of F3 g3 b3 (ok_place F3 T Drow_key)
  have Dput_fact : Kn l.prog w K mg base 4 "put_fact" ["state", "name", "row"] (spPutFact K C) := kn_of F4 g4 b4 (ok_putfact F4 T X Dplace_of)
  have Dput_item : Kn l.prog w K mg base 5 "put_item" ["state", "item"] (spPutItem K C) := kn_of F5 g5 b5 (ok_putitem F5 T X Dput_fact)
  have St : Sta l.prog w K mg base C := ⟨fI, _, A0, d0, ⟨mk, aI, iI, kc⟩, ok_init FI X Dput_item, ok_init0 FI X Dput_item, bI, bI0, v0, hA0⟩
  have Droom_of : Kn l.prog w K mg base 1 "room_of" ["state", "name"] (spRoomOf K C) := kn_of F6 g6 b6 (ok_roomof F6 T X)
  have Dall_names : Kn l.prog w K mg base 1 "all_names" ["state"] (spNames K C) := kn_of F7 g7 b7 (ok_names F7 T X)
  have Dplaces : Kn l.prog w K mg base 2 "places" ["state"] (spPlaces K C) := kn_of F8 g8 b8 (ok_places F8 T X Droom_of Dall_names)
  have Droom_needed : Kn l.prog w K mg base 2 "room_needed" ["state"] (spNeeded K C) := kn_of F9 g9 b9 (ok_needed F9 T X Droom_of Dall_names)
  have D_law_mix : Kn l.prog w K mg base 1 "_law_mix" ["cell", "k"] (spMix) := kn_of F10 g10 b10 (ok_mix F10 T)
  have D_law_draws : Kn l.prog w K mg base 2 "_law_draws" ["script"] (spDraws K) := kn_of F11 g11 b11 (ok_draws F11 T D_law_mix)
  have D_law_at : Kn l.prog w K mg base 2 "_law_at" ["draws", "index"] (spAt K) := kn_of F12 g12 b12 (ok_at F12 T D_law_mix)
  have D_law_is_integer : Kn l.prog w K mg base 1 "_law_is_integer" ["actual"] (spIsInt) := kn_of F13 g13 b13 (ok_isint F13 T)
  have D_law_same : Kn l.prog w K mg base 2 "_law_same" ["actual", "expected"] (spSameI K 0) := kn_of F14 g14 b14 (ok_same0 F14 T D_law_is_integer)
  have D_law_is_dict : Kn l.prog w K mg base 3 "_law_is_dict" ["actual", "expected"] (spIsDict) := kn_of F15 g15 b15 (ok_isdict F15 T D_law_same)
  have D_law_next : Kn l.prog w K mg base 3 "_law_next" ["state", "limit"] (spNext) := kn_of F16 g16 b16 (ok_next F16 T D_law_at)
  have D_law_text : Kn l.prog w K mg base 4 "_law_text" ["state", "most"] (spText) := kn_of F17 g17 b17 (ok_text F17 T D_law_next)
  have D_law_value : Kn l.prog w K mg base 5 "_law_value" ["state"] (spValue) := kn_of F18 g18 b18 (ok_value F18 T D_law_next D_law_text)
  have D_law_first : Kn l.prog w K mg base 1 "_law_first" ["one", "other"] (spFirst) := kn_of F19 g19 b19 (ok_first F19 T)
  have D_law_order : Kn l.prog w K mg base 2 "_law_order" ["first", "second"] (spOrder K) := kn_of F20 g20 b20 (ok_order F20 T D_law_first)
  have D_law_sorted : Kn l.prog w K mg base 3 "_law_sorted" ["rows"] (spSorted K) := kn_of F21 g21 b21 (ok_sorted F21 T D_law_order)
  have D_law_small : Kn l.prog w K mg base 6 "_law_small" ["state"] (spValue) := kn_of F22 g22 b22 (ok_small F22 T D_law_next D_law_value)
  have D_law_shelf : Kn l.prog w K mg base 7 "_law_shelf" ["state", "most"] (spShelf K) := kn_of F23 g23 b23 (ok_shelf F23 T D_law_next D_law_small D_law_sorted)
  have D_law_shelf_items : Kn l.prog w K mg base 1 "_law_shelf_items" ["shelf"] (spItems K) := kn_of F24 g24 b24 (ok_items F24 T)
  exact ok_law F25 T X St D_law_draws D_law_next D_law_shelf D_law_shelf_items D_law_is_dict D_law_same Dplaces Droom_needed
end K1
open PySem PySem.W PyProof.Rows
set_option maxHeartbeats 0 in
theorem PySem.Challenge.cw_turnshelves_k08_places_in_the_region_holds : PySem.Challenge.rw_turnshelves_k08_places_in_the_region.Holds := by
  w_on; o_law; k_head; (case hw => w_witness2)
  k_fill
  refine L2.walk_of (l := PySem.Challenge.rw_turnshelves_k08_places_in_the_region) (n := 63) (k := 9) (x := "script") (CX := fun _ => L2.CX0) (sp := fun w => K1.spLaw _) rfl (by decide) rfl ⟨rfl, by decide, by decide⟩ (fun w h Y => PySem.W.kIn_of Y) ?F (fun _ _ a ns hl _ hS => ⟨a, ns, rfl, hS, hl, fun _ => rfl⟩) (fun _ _ _ _ _ h => h)
  case F =>
    intro w mg fa h KX G hmg
    refine' K1.all_mk KX G hmg ?a1 ?l1 ?c1 ?k1 ?a2 ?l2 ?c2 ?k2 ?a3 ?l3 ?c3 ?k3 ?a4 ?l4 ?c4 ?k4 ?a5 ?l5 ?c5 ?k5 ?a6 ?l6 ?c6 ?k6 ?a7 ?l7 ?c7 ?k7 ?a8 ?l8 ?c8 ?k8 ?a9 ?l9 ?c9 ?k9 ?a10 ?l10 ?c10 ?k10 ?a11 ?l11 ?c11 ?k11 ?a12 ?l12 ?c12 ?k12 ?a13 ?l13 ?c13 ?k13 ?a14 ?l14 ?c14 ?k14 ?a15 ?l15 ?c15 ?k15 ?a16 ?l16 ?c16 ?k16 ?a17 ?l17 ?c17 ?k17 ?a18 ?l18 ?c18 ?k18 ?a19 ?l19 ?c19 ?k19 ?a20 ?l20 ?c20 ?k20 ?a21 ?l21 ?c21 ?k21 ?a22 ?l22 ?c22 ?k22 ?a23 ?l23 ?c23 ?k23 ?a24 ?l24 ?c24 ?k24 ?a25 ?l25 ?c25 ?k25 ?aC ?aI ?iI ?lI ?cI ?kI ?lT ?lA ?pg ?hd ?po ?sa ?mk ?kc ?nR ?nF ?nS ?nL ?z1 ?z2 ?z3 ?z4 ?z5 ?z6 ?z7 ?z8 ?z9 ?z10 ?z11 ?z12
    (case a1 => k_is); (case l1 => k_is); (case c1 => k_is); (case k1 => k_is); (case a2 => k_is); (case l2 => k_is); (case c2 => k_is); (case k2 => k_is); (case a3 => k_is); (case l3 => k_is); (case c3 => k_is); (case k3 => k_is); (case a4 => k_is); (case l4 => k_is); (case c4 => k_is); (case k4 => k_is); (case a5 => k_is); (case l5 => k_is); (case c5 => k_is); (case k5 => k_is); (case a6 => k_is); (case l6 => k_is); (case c6 => k_is); (case k6 => k_is); (case a7 => k_is); (case l7 => k_is); (case c7 => k_is); (case k7 => k_is); (case a8 => k_is); (case l8 => k_is); (case c8 => k_is); (case k8 => k_is); (case a9 => k_is); (case l9 => k_is); (case c9 => k_is); (case k9 => k_is); (case a10 => k_is); (case l10 => k_is); (case c10 => k_is); (case k10 => k_is); (case a11 => k_is); (case l11 => k_is); (case c11 => k_is); (case k11 => k_is); (case a12 => k_is); (case l12 => k_is); (case c12 => k_is); (case k12 => k_is); (case a13 => k_is); (case l13 => k_is); (case c13 => k_is); (case k13 => k_is); (case a14 => k_is); (case l14 => k_is); (case c14 => k_is); (case k14 => k_is); (case a15 => k_is); (case l15 => k_is); (case c15 => k_is); (case k15 => k_is); (case a16 => k_is); (case l16 => k_is); (case c16 => k_is); (case k16 => k_is); (case a17 => k_is); (case l17 => k_is); (case c17 => k_is); (case k17 => k_is); (case a18 => k_is); (case l18 => k_is); (case c18 => k_is); (case k18 => k_is); (case a19 => k_is); (case l19 => k_is); (case c19 => k_is); (case k19 => k_is); (case a20 => k_is); (case l20 => k_is); (case c20 => k_is); (case k20 => k_is); (case a21 => k_is); (case l21 => k_is); (case c21 => k_is); (case k21 => k_is); (case a22 => k_is); (case l22 => k_is); (case c22 => k_is); (case k22 => k_is); (case a23 => k_is); (case l23 => k_is); (case c23 => k_is); (case k23 => k_is); (case a24 => k_is); (case l24 => k_is); (case c24 => k_is); (case k24 => k_is); (case a25 => k_is); (case l25 => k_is); (case c25 => k_is); (case k25 => k_is); (case aC => k_is); (case aI => k_is); (case iI => k_is); (case lI => k_is); (case cI => k_is); (case kI => k_is); (case lT => k_is); (case lA => k_is); (case pg => k_is); (case hd => k_is); (case po => k_is); (case sa => k_is); (case mk => k_is); (case kc => k_is); (case nR => k_is); (case nF => k_is); (case nS => k_is); (case nL => k_is); (case z1 => k_is); (case z2 => k_is); (case z3 => k_is); (case z4 => k_is); (case z5 => k_is); (case z6 => k_is); (case z7 => k_is); (case z8 => k_is); (case z9 => k_is); (case z10 => k_is); (case z11 => k_is); (case z12 => k_is)
