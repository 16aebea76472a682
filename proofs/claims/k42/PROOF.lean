import PyProof.Rows.All
import Wide.All
import OpenK.AllK
import Wide.FinOn
import PyProof.EqAt
import PyProof.EqKinds
import PyProof.TupleCall
import HandS.ForMost
import HandS.IsInst
import HandS.TupAny
import HandS.Strs
import HandS.Replace
import HandS.SetKeys
import HandS.Style
import HandS.Deep
import HandS.TupLen
import HandS.More
import HandS.Walk
import HandS.Defaults
import PySem.Challenge.RW_turnshelves_k42_ways_between_layouts
set_option Elab.async false
set_option linter.all false
set_option maxRecDepth 100000
set_option maxHeartbeats 4000000
/-! defs by name; what a drawer leaves -/
namespace Ow
open PySem PySem.Spec PyProof.Rows L2

/-- the def that the module's name x holds keeps sp, by k levels -/
structure Kn (P : Program) (w : World) (K : PySem.W.Frag) (mg : Str → Option Value) (base : Heap)
    (k : Nat) (x : Str) (ps : List Str) (sp : Sp) : Prop where
  ex : ∃ f fd, FnOk P w K mg base CX0 k f fd ps sp ∧ mg x = some (.ref f) ∧
    PySem.W.keepIn K (.ref f) = true ∧ Binds K fd ps []

theorem pe_kn {X : Cx} {k j : Nat} {x : Str} {ps : List Str} {sp : Sp} {p pos : Pos} {e : Expr}
    {es : List Expr} {t : TA} (c : Kn X.prog X.w X.K X.mg X.base k x ps sp) (hr : Room j X.A)
    (ha : PA X (e :: es) t) (hk : k ≤ j := by decide) (hg : Gl X x := by rfl)
    (hdb : (x == ("__debug__" : Str)) = false := by decide)
    (he : starEach (e :: es) X.env = (false, eval e X.env) :: starEach es X.env := by rfl)
    (hpl : (backTo pos (starEach es X.env)).any (·.1) = false := by rfl) :
    PE X (.Call (.Name x p) (e :: es) [] pos) (tCall sp [] E0 t) := by
  obtain ⟨f, fd, F, gm, kp, b⟩ := c.ex
  exact pe_call F (hr.mono hk) hg gm kp b .nil pass0 ha hdb he hpl

theorem hu64 {k : Nat} {A : Around} (hr : Room k A) : A.units + 64 < cLine := hr.units

/-- the heap but for what stands at p -/
def Gw (p : Addr) (H H' : Hp) : Prop := ∀ b o, b ≠ p → H b = some o → H' b = some o
theorem Gw.refl (p : Addr) (H : Hp) : Gw p H H := fun _ _ _ e => e
theorem Gw.trans {p : Addr} {H H1 H2 : Hp} (a : Gw p H H1) (b : Gw p H1 H2) : Gw p H H2 :=
  fun c o n e => b c o n (a c o n e)
theorem Gw.new {p q : Addr} {H : Hp} {o : HO} (n : H q = none) : Gw p H (upd H q o) :=
  fun b u _ e => by rw [upd_ne (ne_of_none e n)]; exact e
theorem Gw.put {p : Addr} {H : Hp} {o : HO} : Gw p H (upd H p o) :=
  fun b u nb e => by rw [upd_ne nb]; exact e
theorem Gw.same {p : Addr} {H H' : Hp} (s : Same H H') : Gw p H H' := fun b o _ e => s b o e
theorem Same.new {q : Addr} {H : Hp} {o : HO} (n : H q = none) : Same H (upd H q o) :=
  fun b u e => by rw [upd_ne (ne_of_none e n)]; exact e

/-- what a drawer keeps at p: its numbers (at d) and its place -/
def Rng (d : Addr) (H : Hp) (p : Addr) : Prop := ∃ (ds : List Int) (k : Int),
  H p = some (.lst [.ref d, .int k]) ∧ 0 ≤ k ∧ H d = some (.lst (ds.map V.int))
theorem Rng.ne {H : Hp} {p d : Addr} {k : Int} {ds : List Int} (h : H p = some (.lst [.ref d, .int k]))
    (g : H d = some (.lst (ds.map V.int))) : d ≠ p := by
  intro e
  subst e
  rw [h] at g
  injection g with g
  injection g with g
  cases ds with
  | nil => cases g
  | cons a r =>
    rw [List.map_cons] at g
    injection g with g1 _
    cases g1
theorem Rng.same {H H' : Hp} {p d : Addr} (r : Rng d H p) (s : Same H H') : Rng d H' p := by
  obtain ⟨ds, k, h, z, g⟩ := r
  exact ⟨ds, k, s _ _ h, z, s _ _ g⟩
theorem Rng.free {H : Hp} {p d q : Addr} (r : Rng d H p) (n : H q = none) : q ≠ p ∧ q ≠ d := by
  obtain ⟨ds, k, h, _, g⟩ := r
  exact ⟨(ne_of_none h n).symm, (ne_of_none g n).symm⟩
theorem Rng.upd {H : Hp} {p d q : Addr} {o : HO} (r : Rng d H p) (n : q ≠ p ∧ q ≠ d) : Rng d (L2.upd H q o) p := by
  obtain ⟨ds, k, h, z, g⟩ := r
  exact ⟨ds, k, by rw [upd_ne n.1.symm]; exact h, z, by rw [upd_ne n.2.symm]; exact g⟩

/-- a call that draws from p: whatever x it hands back, of which R tells -/
def Drw (p d : Addr) (H : Hp) (Q : VK) (R : V → Hp → Prop) : Prop :=
  ∀ x H', R x H' → Gw p H H' → Rng d H' p → Q x H'
theorem Gw.over {p o : Addr} {H H' : Hp} {u : HO} (g : Gw p H H') (n : H o = none) : Gw p H (upd H' o u) :=
  fun b x nb e => by rw [upd_ne (ne_of_none e n)]; exact g b x nb e
theorem Same.over {o : Addr} {H H' : Hp} {u : HO} (g : Same H H') (n : H o = none) : Same H (upd H' o u) :=
  fun b x e => by rw [upd_ne (ne_of_none e n)]; exact g b x e
theorem Gw.keep {p q : Addr} {H H' : Hp} {o : HO} (g : Gw p H H') (h : H q = some o) (n : q ≠ p) : H' q = some o := g q o n h
/-- what is free behind was free before -/
theorem Gw.free {p q : Addr} {H H' : Hp} (g : Gw p H H') (n : H' q = none) (ne : q ≠ p) : H q = none := by
  cases z : H q with
  | none => rfl
  | some o =>
    rw [g q o ne z] at n
    cases n
theorem small {n m : Nat} (h : n ≤ m) (hm : m ≤ 10000) : n < sizeLine :=
  Nat.lt_of_le_of_lt (Nat.le_trans h hm) (by decide)
end Ow
namespace Ow
open PySem PySem.Spec PyProof.Rows L2
theorem pget_list {X : Cx} : PGet X (rIxL X.K) := by
  intro pins s σ H o i ov iv Q I ro ri h
  obtain ⟨p, xs, n, v, rfl, rfl, hs, ha, q⟩ := h
  cases ro
  obtain ⟨t, rfl⟩ := ri
  obtain ⟨its, r, pl, hz⟩ := I.list hs
  obtain ⟨j, h1, h2, h3, h4, h5⟩ := atI_get ha
  obtain ⟨u, eu, ru⟩ := r.get h2
  have ln := line63
  have hl := r.length
  by_cases h0 : 0 ≤ n
  · have ej : n.toNat = j := by
      rw [seqIndex_of h0 h5] at h1
      exact Option.some.inj h1
    exact wpAny_getItem_list pl.isList h0 (by omega) (by rw [ej]; simpa using eu) ⟨v, H, I, ru, q⟩
  · have ej : (n + (its.toArray.size : Int)).toNat = j := by
      rw [seqIndex_neg (by omega) h4] at h1
      rw [List.size_toArray, ← hl]
      exact Option.some.inj h1
    exact wpAny_getItem_list_neg pl.isList (by omega) (by rw [List.size_toArray]; omega) (by omega)
      (by rw [ej]; simpa using eu) ⟨v, H, I, ru, q⟩
theorem at_in {α : Type} {xs : List α} {v : Int} (h0 : 0 ≤ v) (h1 : v < xs.length) : ∃ y, atI xs v = some y ∧ y ∈ xs := by
  have h : v.toNat < xs.length := by omega
  have e : v = ((v.toNat : Nat) : Int) := by omega
  refine ⟨xs[v.toNat], ?_, List.getElem_mem h⟩
  have z := atI_nat (xs := xs) (j := v.toNat) (List.getElem?_eq_getElem h)
  rw [← e] at z
  exact z
end Ow
namespace Ow
open PySem PySem.Spec PyProof.Rows L2
/-- a built-in class by its name -/
theorem pe_ty {X : Cx} (n : String) {x : Str} {pos : Pos} (hg : Gl X x) (hm : X.mg x = none) (hv : bootBuiltins x = some (.type n))
    (hn : x ≠ "__name__" := by decide) (hd : (x == ("__debug__" : Str)) = false := by decide) : PE X (.Name x pos) (tC (.ty n)) :=
  pe_bltn hg hm hv rfl hn hd
theorem sz (n : Nat) (h : n ≤ 1000 := by decide) : n ≤ sizeLine := Nat.le_trans h (by decide)
/-- a statement and the rest, with a word between -/
theorem pss_mid {X : Cx} {st : Stmt} {rest : List Stmt} {t u : TS} (a : PS X st t) (b : PSs X rest u) :
    PSs X (st :: rest) fun D σ H => ∃ Mid : L2.St → Hp → Prop, t { D with nx := Mid } σ H ∧ ∀ σ' H', Mid σ' H' → u D σ' H' := by
  refine ⟨fun pins s σ H D I ⟨Mid, hm, hu⟩ => ?_⟩
  refine wpAny_execs_cons (thn (a.run pins s σ H { D with nx := Mid } I hm) fun f s1 q => ?_)
  cases f with
  | next =>
    obtain ⟨σ', H', I', q⟩ := q
    exact b.run pins s1 σ' H' D I' (hu σ' H' q)
  | ret v => exact q
  | brk => exact q
  | cont => exact q
end Ow
/-! tuples of data compared by < and >: only the places up to the first unequal pair are asked. -/
namespace Tlz
open PySem PySem.SeqAt PySem.MeetsSeq PySem.MeetsSeq2 PySem.MeetsSeq3
open PySem.AutoSeq1 (wpAny_loadPart')

/-- x op y gives the answer k and leaves the state -/
def Rc (op : CmpOp) (A : Around) (s : Shared) (x y : Value) (k : Bool) : Prop :=
  ∀ (P : Program) (w : World) (E Q : Value → Shared → Prop), Q (.bool k) s →
    wpAny (model P w) A (richCompare op x y) Q E s

/-- the first of the next k places, from i on, that differs tells; fin if none does -/
def scan (eq ans : Nat → Bool) (fin : Bool) (i : Nat) : Nat → Bool
  | 0 => fin
  | k + 1 => cond (eq i) (scan eq ans fin (i + 1) k) (ans i)

theorem scan_eq {eq ans : Nat → Bool} {fin : Bool} {i k : Nat} (h : eq i = true) :
    scan eq ans fin i (k + 1) = scan eq ans fin (i + 1) k := by
  show cond (eq i) _ _ = _
  rw [h]; rfl
theorem scan_ne {eq ans : Nat → Bool} {fin : Bool} {i k : Nat} (h : eq i = false) :
    scan eq ans fin i (k + 1) = ans i := by
  show cond (eq i) _ _ = _
  rw [h]; rfl

theorem ltBody (a b : Addr) (us vs : Array Value) (n m : Nat) (da db : Option Addr)
    (sa sb : Array (Option Value)) (eq ans : Nat → Bool) :
    Meets (Builtin.«tuple.__lt__» ⟨[.ref a, .ref b], []⟩) (fun A R s =>
      s.heap.get? a = some ⟨.type "tuple", da, .seq us n, sa⟩ ∧
      s.heap.get? b = some ⟨.type "tuple", db, .seq vs m, sb⟩ ∧
      (∀ j (p : j < us.size) (q : j < vs.size), EqAt A.in1 s us[j] vs[j] (eq j)) ∧
      (∀ j (p : j < us.size) (q : j < vs.size), (∀ i, i < j → eq i = true) → eq j = false →
        Rc .Lt A.in1 s us[j] vs[j] (ans j)) ∧
      R (.ok (.ret (.bool (scan eq ans (decide (us.size < vs.size)) 0 (min us.size vs.size))))) s) :=
  .of_wp fun P w A R s ⟨ha, hb, he, hr, h⟩ => by
    obtain ⟨hp, g, d, tk, os⟩ := s
    have sub := AutoSeq1.sub_tuple_tuple
    have len : (us.toList.zip vs.toList).length = min us.size vs.size := by simp
    wp_walk using wpAny_loadPart' ha, wpAny_loadPart' hb, wpAny_forIn_list _ (fun rest c s' => c.1 = none ∧
      s' = ⟨hp, g, d, tk, os⟩ ∧ ∃ i, rest = (us.toList.zip vs.toList).drop i ∧ (∀ z, z < i → eq z = true) ∧
      R (.ok (.ret (.bool (scan eq ans (decide (us.size < vs.size)) i (min us.size vs.size - i))))) s') _
    case turn =>
      rintro ⟨y, x⟩ rest c s' ⟨hc, rfl, i, hz, pre, hR⟩
      have hi : i < min us.size vs.size := by
        rw [← len]
        apply Nat.lt_of_not_le
        intro z
        rw [List.drop_of_length_le z] at hz
        cases hz
      have p : i < us.size := by omega
      have q : i < vs.size := by omega
      rw [List.drop_eq_getElem_cons (by rw [len]; exact hi)] at hz
      injection hz with e1 e2
      have ey : y = us[i] := by simpa using congrArg Prod.fst e1
      have ex : x = vs[i] := by simpa using congrArg Prod.snd e1
      subst ey ex
      have cut : min us.size vs.size - i = min us.size vs.size - (i + 1) + 1 := by omega
      rw [cut] at hR
      refine wpAny_bind (he i p q P w _ _ ?_)
      by_cases k : eq i = true
      · rw [scan_eq k] at hR
        rw [k]
        wp_walk
        refine ⟨rfl, rfl, i + 1, e2, fun z hz => ?_, hR⟩
        by_cases t : z = i
        · rw [t]; exact k
        · exact pre z (by omega)
      · have k' : eq i = false := by simpa using k
        rw [scan_ne k'] at hR
        have r := hr i p q pre k' P w
        rw [k']
        wp_walk using r
        exact ⟨_, rfl, by simpa using hR⟩
    case fin =>
      rintro ⟨c1, c2⟩ s' ⟨hc, rfl, i, hz, pre, hR⟩
      have hc' : c1 = none := hc
      subst hc'
      have hi : min us.size vs.size ≤ i := by
        apply Nat.le_of_not_lt
        intro z
        rw [List.drop_eq_getElem_cons (by rw [len]; exact z)] at hz
        cases hz
      rw [Nat.sub_eq_zero_of_le hi] at hR
      wp_walk
      exact ⟨_, rfl, by simpa [Builtin.Tuple.tupleCompareSizes, scan] using hR⟩
    case h => exact ⟨rfl, rfl, 0, rfl, fun _ z => absurd z (Nat.not_lt_zero _), by simpa using h⟩

theorem gtBody (a b : Addr) (us vs : Array Value) (n m : Nat) (da db : Option Addr)
    (sa sb : Array (Option Value)) (eq ans : Nat → Bool) :
    Meets (Builtin.«tuple.__gt__» ⟨[.ref a, .ref b], []⟩) (fun A R s =>
      s.heap.get? a = some ⟨.type "tuple", da, .seq us n, sa⟩ ∧
      s.heap.get? b = some ⟨.type "tuple", db, .seq vs m, sb⟩ ∧
      (∀ j (p : j < us.size) (q : j < vs.size), EqAt A.in1 s us[j] vs[j] (eq j)) ∧
      (∀ j (p : j < us.size) (q : j < vs.size), (∀ i, i < j → eq i = true) → eq j = false →
        Rc .Gt A.in1 s us[j] vs[j] (ans j)) ∧
      R (.ok (.ret (.bool (scan eq ans (decide (us.size > vs.size)) 0 (min us.size vs.size))))) s) :=
  .of_wp fun P w A R s ⟨ha, hb, he, hr, h⟩ => by
    obtain ⟨hp, g, d, tk, os⟩ := s
    have sub := AutoSeq1.sub_tuple_tuple
    have len : (us.toList.zip vs.toList).length = min us.size vs.size := by simp
    wp_walk using wpAny_loadPart' ha, wpAny_loadPart' hb, wpAny_forIn_list _ (fun rest c s' => c.1 = none ∧
      s' = ⟨hp, g, d, tk, os⟩ ∧ ∃ i, rest = (us.toList.zip vs.toList).drop i ∧ (∀ z, z < i → eq z = true) ∧
      R (.ok (.ret (.bool (scan eq ans (decide (us.size > vs.size)) i (min us.size vs.size - i))))) s') _
    case turn =>
      rintro ⟨y, x⟩ rest c s' ⟨hc, rfl, i, hz, pre, hR⟩
      have hi : i < min us.size vs.size := by
        rw [← len]
        apply Nat.lt_of_not_le
        intro z
        rw [List.drop_of_length_le z] at hz
        cases hz
      have p : i < us.size := by omega
      have q : i < vs.size := by omega
      rw [List.drop_eq_getElem_cons (by rw [len]; exact hi)] at hz
      injection hz with e1 e2
      have ey : y = us[i] := by simpa using congrArg Prod.fst e1
      have ex : x = vs[i] := by simpa using congrArg Prod.snd e1
      subst ey ex
      have cut : min us.size vs.size - i = min us.size vs.size - (i + 1) + 1 := by omega
      rw [cut] at hR
      refine wpAny_bind (he i p q P w _ _ ?_)
      by_cases k : eq i = true
      · rw [scan_eq k] at hR
        rw [k]
        wp_walk
        refine ⟨rfl, rfl, i + 1, e2, fun z hz => ?_, hR⟩
        by_cases t : z = i
        · rw [t]; exact k
        · exact pre z (by omega)
      · have k' : eq i = false := by simpa using k
        rw [scan_ne k'] at hR
        have r := hr i p q pre k' P w
        rw [k']
        wp_walk using r
        exact ⟨_, rfl, by simpa using hR⟩
    case fin =>
      rintro ⟨c1, c2⟩ s' ⟨hc, rfl, i, hz, pre, hR⟩
      have hc' : c1 = none := hc
      subst hc'
      have hi : min us.size vs.size ≤ i := by
        apply Nat.le_of_not_lt
        intro z
        rw [List.drop_eq_getElem_cons (by rw [len]; exact z)] at hz
        cases hz
      rw [Nat.sub_eq_zero_of_le hi] at hR
      wp_walk
      exact ⟨_, rfl, by simpa [Builtin.Tuple.tupleCompareSizes, scan] using hR⟩
    case h => exact ⟨rfl, rfl, 0, rfl, fun _ z => absurd z (Nat.not_lt_zero _), by simpa using h⟩

theorem Rc.tupLt {A : Around} {s : Shared} {a b : Addr} {us vs : Array Value} {eq ans : Nat → Bool}
    (ta : s.heap.IsTuple a us) (tb : s.heap.IsTuple b vs) (hu : A.units < cLine)
    (he : ∀ j (p : j < us.size) (q : j < vs.size), EqAt A.in1 s us[j] vs[j] (eq j))
    (hr : ∀ j (p : j < us.size) (q : j < vs.size), (∀ i, i < j → eq i = true) → eq j = false →
      Rc .Lt A.in1 s us[j] vs[j] (ans j)) :
    Rc .Lt A s (.ref a) (.ref b) (scan eq ans (decide (us.size < vs.size)) 0 (min us.size vs.size)) := by
  intro P w E Q h
  obtain ⟨⟨c1, da, t1, sa⟩, ga, ca, n, ea⟩ := id ta
  obtain ⟨⟨c2, db, t2, sb⟩, gb, cb, m, eb⟩ := id tb
  have ca1 : c1 = Value.type "tuple" := ca
  have cb1 : c2 = Value.type "tuple" := cb
  have ea1 : t1 = .seq us n := ea
  have eb1 : t2 = .seq vs m := eb
  subst ca1 cb1 ea1 eb1
  exact richCompare_meets_room (op := .Lt) ⟨_, ga, rfl⟩ ⟨_, gb, rfl⟩ F.slot_tuple_lt F.entry_tuple_lt
    (F.args_tuple_lt_2 _ _) (ltBody a b us vs n m da db sa sb eq ans)
    ⟨ga, gb, he, hr, fun z => (nomatch z), h⟩ hu

theorem Rc.tupGt {A : Around} {s : Shared} {a b : Addr} {us vs : Array Value} {eq ans : Nat → Bool}
    (ta : s.heap.IsTuple a us) (tb : s.heap.IsTuple b vs) (hu : A.units < cLine)
    (he : ∀ j (p : j < us.size) (q : j < vs.size), EqAt A.in1 s us[j] vs[j] (eq j))
    (hr : ∀ j (p : j < us.size) (q : j < vs.size), (∀ i, i < j → eq i = true) → eq j = false →
      Rc .Gt A.in1 s us[j] vs[j] (ans j)) :
    Rc .Gt A s (.ref a) (.ref b) (scan eq ans (decide (us.size > vs.size)) 0 (min us.size vs.size)) := by
  intro P w E Q h
  obtain ⟨⟨c1, da, t1, sa⟩, ga, ca, n, ea⟩ := id ta
  obtain ⟨⟨c2, db, t2, sb⟩, gb, cb, m, eb⟩ := id tb
  have ca1 : c1 = Value.type "tuple" := ca
  have cb1 : c2 = Value.type "tuple" := cb
  have ea1 : t1 = .seq us n := ea
  have eb1 : t2 = .seq vs m := eb
  subst ca1 cb1 ea1 eb1
  exact richCompare_meets_room (op := .Gt) ⟨_, ga, rfl⟩ ⟨_, gb, rfl⟩ F.slot_tuple_gt F.entry_tuple_gt
    (F.args_tuple_gt_2 _ _) (gtBody a b us vs n m da db sa sb eq ans)
    ⟨ga, gb, he, hr, fun z => (nomatch z), h⟩ hu
end Tlz
/-! < and > of data that are compared place by place, up to the first that differs -/
namespace Tlz
open PySem PySem.SeqAt PyProof.Rows
def ltL (f : PyData → PyData → Bool) : List PyData → List PyData → Bool
  | [], [] => false
  | [], _ :: _ => true
  | _ :: _, [] => false
  | x :: xs, y :: ys => if PyData.eqv x y = true then ltL f xs ys else f x y
def gtL (f : PyData → PyData → Bool) : List PyData → List PyData → Bool
  | [], [] => false
  | [], _ :: _ => false
  | _ :: _, [] => true
  | x :: xs, y :: ys => if PyData.eqv x y = true then gtL f xs ys else f x y
/-- comparable as far as it is asked -/
def okL (f : PyData → PyData → Bool) : List PyData → List PyData → Bool
  | x :: xs, y :: ys => if PyData.eqv x y = true then okL f xs ys else f x y
  | [], _ => true
  | _ :: _, [] => true
def ltD : Nat → PyData → PyData → Bool
  | _, .int i, .int j => decide (i < j)
  | _, .str x, .str y => decide (x.cps.toList < y.cps.toList)
  | n + 1, .tuple xs, .tuple ys => ltL (ltD n) xs ys
  | _, _, _ => false
def gtD : Nat → PyData → PyData → Bool
  | _, .int i, .int j => decide (j < i)
  | _, .str x, .str y => decide (y.cps.toList < x.cps.toList)
  | n + 1, .tuple xs, .tuple ys => gtL (gtD n) xs ys
  | _, _, _ => false
def okD : Nat → PyData → PyData → Bool
  | _, .int _, .int _ => true
  | _, .str _, .str _ => true
  | n + 1, .tuple xs, .tuple ys => okL (okD n) xs ys
  | _, _, _ => false
abbrev at_ (xs : List PyData) (j : Nat) : PyData := xs.getD j .none
theorem scan_shift (eq ans : Nat → Bool) (fin : Bool) : ∀ k i : Nat,
    scan eq ans fin (i + 1) k = scan (fun j => eq (j + 1)) (fun j => ans (j + 1)) fin i k
  | 0, _ => rfl
  | k + 1, i => by
    show cond (eq (i + 1)) (scan eq ans fin (i + 1 + 1) k) (ans (i + 1)) = cond (eq (i + 1)) (scan _ _ fin (i + 1) k) (ans (i + 1))
    rw [scan_shift eq ans fin k (i + 1)]
theorem scan_lt (f : PyData → PyData → Bool) : ∀ xs ys : List PyData,
    scan (fun j => PyData.eqv (at_ xs j) (at_ ys j)) (fun j => f (at_ xs j) (at_ ys j)) (decide (xs.length < ys.length)) 0 (min xs.length ys.length) = ltL f xs ys
  | [], [] => rfl
  | [], _ :: ys => by simp [scan, ltL]
  | _ :: xs, [] => by simp [scan, ltL]
  | x :: xs, y :: ys => by
    have e : min (x :: xs).length (y :: ys).length = min xs.length ys.length + 1 := by
      rw [List.length_cons, List.length_cons]; omega
    have d : decide ((x :: xs).length < (y :: ys).length) = decide (xs.length < ys.length) := by
      rw [List.length_cons, List.length_cons]
      exact decide_eq_decide.mpr (by omega)
    rw [e, d]
    show cond (PyData.eqv x y) (scan _ _ _ (0 + 1) (min xs.length ys.length)) (f x y) = _
    rw [scan_shift]
    have ih := scan_lt f xs ys
    unfold ltL
    cases h : PyData.eqv x y with
    | true => exact ih
    | false => rfl
theorem scan_gt (f : PyData → PyData → Bool) : ∀ xs ys : List PyData,
    scan (fun j => PyData.eqv (at_ xs j) (at_ ys j)) (fun j => f (at_ xs j) (at_ ys j)) (decide (xs.length > ys.length)) 0 (min xs.length ys.length) = gtL f xs ys
  | [], [] => rfl
  | [], _ :: ys => by simp [scan, gtL]
  | _ :: xs, [] => by simp [scan, gtL]
  | x :: xs, y :: ys => by
    have e : min (x :: xs).length (y :: ys).length = min xs.length ys.length + 1 := by
      rw [List.length_cons, List.length_cons]; omega
    have d : decide ((x :: xs).length > (y :: ys).length) = decide (xs.length > ys.length) := by
      rw [List.length_cons, List.length_cons]
      exact decide_eq_decide.mpr (by omega)
    rw [e, d]
    show cond (PyData.eqv x y) (scan _ _ _ (0 + 1) (min xs.length ys.length)) (f x y) = _
    rw [scan_shift]
    have ih := scan_gt f xs ys
    unfold gtL
    cases h : PyData.eqv x y with
    | true => exact ih
    | false => rfl
theorem okL_at (f : PyData → PyData → Bool) : ∀ (xs ys : List PyData), okL f xs ys = true → ∀ j, j < xs.length → j < ys.length →
    (∀ i, i < j → PyData.eqv (at_ xs i) (at_ ys i) = true) → PyData.eqv (at_ xs j) (at_ ys j) = false → f (at_ xs j) (at_ ys j) = true
  | [], _, _, j, h, _, _, _ => absurd h (Nat.not_lt_zero _)
  | _ :: _, [], _, j, _, h, _, _ => absurd h (Nat.not_lt_zero _)
  | x :: xs, y :: ys, h, j, h1, h2, pre, ne => by
    unfold okL at h
    cases j with
    | zero =>
      have n : PyData.eqv x y = false := ne
      rw [n] at h
      exact h
    | succ j =>
      have p : PyData.eqv x y = true := pre 0 (Nat.succ_pos _)
      rw [p] at h
      exact okL_at f xs ys h j (by simpa using h1) (by simpa using h2) (fun i hi => pre (i + 1) (by omega)) ne
theorem reads_at {h : Heap} : ∀ {vs : List Value} {ds : List PyData} {as : List Addr}, ReadsAll h vs ds as → ∀ j (p : j < vs.length), ∃ bs, Reads h vs[j] (at_ ds j) bs
  | _, _, _, .nil, j, p => absurd p (Nat.not_lt_zero _)
  | _, _, _, .cons r _, 0, _ => ⟨_, r⟩
  | _, _, _, .cons _ t, j + 1, p => reads_at t j (by simpa using p)
theorem lay_at : ∀ (ds : List PyData), PyData.canLayAll0 ds = true → ∀ j, j < ds.length → (at_ ds j).canLay0 = true
  | [], _, j, p => absurd p (Nat.not_lt_zero _)
  | d :: ds, h, j, p => by
    unfold PyData.canLayAll0 at h
    rw [Bool.and_eq_true] at h
    cases j with
    | zero => exact h.1
    | succ j => exact lay_at ds h.2 j (by simpa using p)
theorem deep_at : ∀ (ds : List PyData) (n : Nat), PyData.depthAll ds ≤ n → ∀ j, (at_ ds j).depth ≤ n
  | [], n, _, j => by
    show (PyData.none).depth ≤ n
    exact Nat.zero_le _
  | d :: ds, n, h, j => by
    unfold PyData.depthAll at h
    cases j with
    | zero => exact Nat.le_trans (Nat.le_max_left _ _) h
    | succ j => exact deep_at ds n (Nat.le_trans (Nat.le_max_right _ _) h) j
theorem rcLt : ∀ (n : Nat) (d e : PyData) (A : Around) (s : Shared) (v u : Value) (as bs : List Addr), Reads s.heap v d as → Reads s.heap u e bs →
    d.canLay0 = true → e.canLay0 = true → d.depth ≤ n → okD n d e = true → A.units + n < cLine → Rc .Lt A s v u (ltD n d e) := by
  intro n
  induction n with
  | zero =>
    intro d e A s v u as bs rv ru cd ce dd ok hu
    cases rv with
    | int i t =>
      cases ru with
      | int j t' => exact fun _ _ _ _ h => PyProof.Rows.lt_int h
      | _ => exact absurd ok (by simp [okD])
    | str x t =>
      cases ru with
      | str y t' => exact fun _ _ _ _ h => PyProof.Rows.lt_str h
      | _ => exact absurd ok (by simp [okD])
    | _ => exact absurd ok (by simp [okD])
  | succ n ih =>
    intro d e A s v u as bs rv ru cd ce dd ok hu
    cases rv with
    | int i t =>
      cases ru with
      | int j t' => exact fun _ _ _ _ h => PyProof.Rows.lt_int h
      | _ => exact absurd ok (by simp [okD])
    | str x t =>
      cases ru with
      | str y t' => exact fun _ _ _ _ h => PyProof.Rows.lt_str h
      | _ => exact absurd ok (by simp [okD])
    | @tuple a o vs k xs as h1 h2 h3 h4 =>
      cases ru with
      | @tuple b o' ws k' ys bs g1 g2 g3 g4 =>
        have lx : vs.size = xs.length := by simpa using ReadsAll.lenAny h4
        have ly : ws.size = ys.length := by simpa using ReadsAll.lenAny g4
        have dx : PyData.depthAll xs ≤ n := by
          have z : PyData.depthAll xs + 1 ≤ n + 1 := dd
          omega
        have ok' : okL (okD n) xs ys = true := ok
        have R := Rc.tupLt (A := A) (eq := fun j => PyData.eqv (at_ xs j) (at_ ys j)) (ans := fun j => ltD n (at_ xs j) (at_ ys j)) (a := a) (b := b) (us := vs) (vs := ws) (s := s)
          ⟨_, h1, h2, _, h3⟩ ⟨_, g1, g2, _, g3⟩ (by omega) (fun j p q => by
            obtain ⟨_, r1⟩ := reads_at h4 j (by simpa using p)
            obtain ⟨_, r2⟩ := reads_at g4 j (by simpa using q)
            have := eqAt_reads _ _ A.in1 s _ _ _ _ r1 r2 (lay_at xs cd j (by omega)) (lay_at ys ce j (by omega)) (by
              have z := deep_at xs n dx j
              have zz : min (at_ xs j).depth (at_ ys j).depth ≤ (at_ xs j).depth := Nat.min_le_left _ _
              show A.units + 1 + _ < cLine
              omega)
            simpa using this) (fun j p q pre ne => by
            obtain ⟨_, r1⟩ := reads_at h4 j (by simpa using p)
            obtain ⟨_, r2⟩ := reads_at g4 j (by simpa using q)
            have := ih _ _ A.in1 s _ _ _ _ r1 r2 (lay_at xs cd j (by omega)) (lay_at ys ce j (by omega)) (deep_at xs n dx j)
              (okL_at (okD n) xs ys ok' j (by omega) (by omega) pre ne) (by
                show A.units + 1 + n < cLine
                omega)
            simpa using this)
        rw [lx, ly, scan_lt] at R
        exact R
      | _ => exact absurd ok (by simp [okD])
    | _ => exact absurd ok (by simp [okD])
theorem rcGt : ∀ (n : Nat) (d e : PyData) (A : Around) (s : Shared) (v u : Value) (as bs : List Addr), Reads s.heap v d as → Reads s.heap u e bs →
    d.canLay0 = true → e.canLay0 = true → d.depth ≤ n → okD n d e = true → A.units + n < cLine → Rc .Gt A s v u (gtD n d e) := by
  intro n
  induction n with
  | zero =>
    intro d e A s v u as bs rv ru cd ce dd ok hu
    cases rv with
    | int i t =>
      cases ru with
      | int j t' => exact fun _ _ _ _ h => PyProof.Rows.gt_int h
      | _ => exact absurd ok (by simp [okD])
    | str x t =>
      cases ru with
      | str y t' => exact fun _ _ _ _ h => PySem.P.gt_str h
      | _ => exact absurd ok (by simp [okD])
    | _ => exact absurd ok (by simp [okD])
  | succ n ih =>
    intro d e A s v u as bs rv ru cd ce dd ok hu
    cases rv with
    | int i t =>
      cases ru with
      | int j t' => exact fun _ _ _ _ h => PyProof.Rows.gt_int h
      | _ => exact absurd ok (by simp [okD])
    | str x t =>
      cases ru with
      | str y t' => exact fun _ _ _ _ h => PySem.P.gt_str h
      | _ => exact absurd ok (by simp [okD])
    | @tuple a o vs k xs as h1 h2 h3 h4 =>
      cases ru with
      | @tuple b o' ws k' ys bs g1 g2 g3 g4 =>
        have lx : vs.size = xs.length := by simpa using ReadsAll.lenAny h4
        have ly : ws.size = ys.length := by simpa using ReadsAll.lenAny g4
        have dx : PyData.depthAll xs ≤ n := by
          have z : PyData.depthAll xs + 1 ≤ n + 1 := dd
          omega
        have ok' : okL (okD n) xs ys = true := ok
        have R := Rc.tupGt (A := A) (eq := fun j => PyData.eqv (at_ xs j) (at_ ys j)) (ans := fun j => gtD n (at_ xs j) (at_ ys j)) (a := a) (b := b) (us := vs) (vs := ws) (s := s)
          ⟨_, h1, h2, _, h3⟩ ⟨_, g1, g2, _, g3⟩ (by omega) (fun j p q => by
            obtain ⟨_, r1⟩ := reads_at h4 j (by simpa using p)
            obtain ⟨_, r2⟩ := reads_at g4 j (by simpa using q)
            have := eqAt_reads _ _ A.in1 s _ _ _ _ r1 r2 (lay_at xs cd j (by omega)) (lay_at ys ce j (by omega)) (by
              have z := deep_at xs n dx j
              have zz : min (at_ xs j).depth (at_ ys j).depth ≤ (at_ xs j).depth := Nat.min_le_left _ _
              show A.units + 1 + _ < cLine
              omega)
            simpa using this) (fun j p q pre ne => by
            obtain ⟨_, r1⟩ := reads_at h4 j (by simpa using p)
            obtain ⟨_, r2⟩ := reads_at g4 j (by simpa using q)
            have := ih _ _ A.in1 s _ _ _ _ r1 r2 (lay_at xs cd j (by omega)) (lay_at ys ce j (by omega)) (deep_at xs n dx j)
              (okL_at (okD n) xs ys ok' j (by omega) (by omega) pre ne) (by
                show A.units + 1 + n < cLine
                omega)
            simpa using this)
        rw [lx, ly, scan_gt] at R
        exact R
      | _ => exact absurd ok (by simp [okD])
    | _ => exact absurd ok (by simp [okD])
end Tlz
namespace K1
open PySem PySem.Spec PyProof.Rows L2 Ow
def topS (i : Nat) : Stmt := PySem.Challenge.pw_turnshelves_k42_ways_between_layouts.main.body.getD i (.Pass ⟨0, 0, 0, 0⟩)
/-- the names that the top leaves alone -/
structure Bl (mg : Str → Option Value) : Prop where
  range : mg "range" = none
  len : mg "len" = none
  int : mg "int" = none
  str : mg "str" = none
  bool : mg "bool" = none
  list : mg "list" = none
  tuple : mg "tuple" = none
  dict : mg "dict" = none
  isinstance : mg "isinstance" = none
  min : mg "min" = none
  sum : mg "sum" = none
  sorted : mg "sorted" = none
  ord : mg "ord" = none
end K1
namespace K1
open PySem PySem.Spec PyProof.Rows L2 Ow
/-- the signs of a text are those of values -/
def Pr (z : Str) : Prop := ∀ c ∈ z.cps.toList, 32 ≤ c ∧ c < 127 ∧ c ≠ 37
instance (z : Str) : Decidable (Pr z) := inferInstanceAs (Decidable (∀ c ∈ z.cps.toList, 32 ≤ c ∧ c < 127 ∧ c ≠ 37))
theorem joinL_mem : ∀ (ps : List (List Nat)) (c : Nat), c ∈ TL.joinL [] ps → ∃ p ∈ ps, c ∈ p
  | [], _, h => nomatch h
  | [p], c, h => ⟨p, List.mem_singleton.mpr rfl, h⟩
  | p :: q :: r, c, h => by
    have h' : c ∈ p ++ ([] ++ TL.joinL [] (q :: r)) := h
    rw [List.nil_append] at h'
    rcases List.mem_append.mp h' with z | z
    · exact ⟨p, List.mem_cons_self, z⟩
    · obtain ⟨x, m, i⟩ := joinL_mem (q :: r) c z
      exact ⟨x, List.mem_cons_of_mem _ m, i⟩
theorem joinL_len : ∀ (ps : List (List Nat)), (TL.joinL [] ps).length = (ps.map (·.length)).sum
  | [] => rfl
  | [p] => by simp [TL.joinL]
  | p :: q :: r => by
    have e : TL.joinL [] (p :: q :: r) = p ++ ([] ++ TL.joinL [] (q :: r)) := rfl
    rw [e, List.nil_append, List.length_append, joinL_len (q :: r)]
    rfl
theorem Pr.join {ys : List Str} (h : ∀ y ∈ ys, Pr y) : Pr (Txt.join (PySem.Str.ofString "") ys) := by
  intro c hc
  rw [TL.join_eq] at hc
  have h1 : c ∈ TL.joinL [] (ys.map fun z => z.cps.toList) := by
    have hc' : c ∈ TL.tl (Str.join (PySem.Str.ofString "") ys) := hc
    rw [TL.tl_join] at hc'
    exact hc'
  obtain ⟨p, m, i⟩ := joinL_mem _ _ h1
  obtain ⟨y, my, rfl⟩ := List.mem_map.mp m
  exact h y my c i
theorem join_size {ys : List Str} : (Txt.join (PySem.Str.ofString "") ys).length = (ys.map (·.length)).sum := by
  rw [TL.join_eq]
  have e : (TL.tl (Str.join (PySem.Str.ofString "") ys)).length = (Str.join (PySem.Str.ofString "") ys).length := by
    show (Str.join (PySem.Str.ofString "") ys).cps.toList.length = _
    rw [Array.length_toList]
    rfl
  rw [← e, TL.tl_join]
  show (TL.joinL [] (ys.map fun z => z.cps.toList)).length = _
  rw [joinL_len, List.map_map]
  congr 1
/-- a value of a row -/
def Scal (v : V) : Prop := (∃ i, v = .int i ∧ i.natAbs < 2 ^ 140) ∨ ∃ z, v = .str z ∧ Pr z ∧ z.length ≤ 200
def firstV : V → V → Bool
  | .int i, .int j => decide (i < j)
  | .int _, .str _ => true
  | .str _, .int _ => false
  | .str x, .str y => decide (x.cps.toList < y.cps.toList)
  | _, _ => false
def orderV : List V → List V → Int
  | [], [] => 0
  | [], _ :: _ => -1
  | _ :: _, [] => 1
  | x :: xs, y :: ys => if firstV x y = true then -1 else if firstV y x = true then 1 else orderV xs ys
def spMix : Sp := fun vs H Q _ => ∃ c k : Int, vs = [.int c, .int k] ∧
  ∀ v : Int, 0 ≤ v → v < 9973 → Q (.int v) H
def spDraws (K : PySem.W.Frag) : Sp := fun vs H Q _ => ∃ (a : Addr) (ns : List Int), vs = [.ref a] ∧
  SqL K H a (ns.map V.int) ∧ ns.length ≤ 63 ∧ ∀ (H' : Hp) (p : Addr) (ds : List Int), Same H H' → H p = none →
    H' p = some (.lst (ds.map V.int)) → Q (.ref p) H'
def spAt (K : PySem.W.Frag) : Sp := fun vs H Q _ => ∃ (d : Addr) (ds : List Int) (i : Int), vs = [.ref d, .int i] ∧
  SqL K H d (ds.map V.int) ∧ 0 ≤ i ∧ ∀ v : Int, Q (.int v) H
def spNext : Sp := fun vs H Q _ => ∃ (p d : Addr) (l : Int), vs = [.ref p, .int l] ∧ 0 < l ∧ Rng d H p ∧
  Drw p d H Q fun x _ => ∃ v : Int, x = .int v ∧ 0 ≤ v ∧ v < l
def spText : Sp := fun vs H Q _ => ∃ (p d : Addr) (m : Nat), vs = [.ref p, .int (m : Int)] ∧ m ≤ 1000 ∧ Rng d H p ∧
  Drw p d H Q fun x _ => ∃ z : Str, x = .str z ∧ Pr z ∧ z.length ≤ m
def spValue : Sp := fun vs H Q _ => ∃ p d : Addr, vs = [.ref p] ∧ Rng d H p ∧ Drw p d H Q fun x _ => Scal x
def spRow : Sp := fun vs H Q _ => ∃ (p d : Addr) (n : Nat), vs = [.ref p, .int (n : Int)] ∧ n ≤ 1000 ∧ Rng d H p ∧
  Drw p d H Q fun x H' => ∃ (q : Addr) (xs : List V), x = .ref q ∧ H' q = some (.tup xs) ∧ xs.length = n ∧ ∀ y ∈ xs, Scal y
def spName : Sp := fun vs H Q _ => ∃ p d : Addr, vs = [.ref p] ∧ Rng d H p ∧ Drw p d H Q fun x _ => ∃ z, x = .str z ∧ Pr z
def spFirst : Sp := fun vs H Q _ => ∃ a b : V, vs = [a, b] ∧ Scal a ∧ Scal b ∧ Q (.bl (firstV a b)) H
def spOrder (K : PySem.W.Frag) : Sp := fun vs H Q _ => ∃ (a b : Addr) (xs ys : List V), vs = [.ref a, .ref b] ∧
  SqT K H a xs ∧ SqT K H b ys ∧ xs.length ≤ 1000 ∧ (∀ x ∈ xs, Scal x) ∧ (∀ y ∈ ys, Scal y) ∧ Q (.int (orderV xs ys)) H
/-- every tuple stays -/
def Tk (K : PySem.W.Frag) (H H' : Hp) : Prop := ∀ (a : Addr) (xs : List V), SqT K H a xs → SqT K H' a xs
theorem Tk.same {K : PySem.W.Frag} {H H' : Hp} (s : Same H H') : Tk K H H' := fun a xs h => by
  rcases h with (h | ⟨o, h⟩) | h
  · exact .inl (.inl (s _ _ h))
  · exact .inl (.inr ⟨o, s _ _ h⟩)
  · exact .inr h
theorem Tk.trans {K : PySem.W.Frag} {H H1 H2 : Hp} (a : Tk K H H1) (b : Tk K H1 H2) : Tk K H H2 := fun c xs h => b c xs (a c xs h)
theorem Tk.gw {K : PySem.W.Frag} {H H' : Hp} {p : Addr} {us : List V} (e : H p = some (.lst us)) (g : Gw p H H') : Tk K H H' := fun a xs h => by
  rcases h with (h | ⟨o, h⟩) | h
  · exact .inl (.inl (g _ _ (fun z => by rw [z, e] at h; cases h) h))
  · exact .inl (.inr ⟨o, g _ _ (fun z => by rw [z, e] at h; cases h) h⟩)
  · exact .inr h
theorem Tk.put {K : PySem.W.Frag} {H : Hp} {p : Addr} {us : List V} {o : HO} (e : H p = some (.lst us)) : Tk K H (upd H p o) := Tk.gw e Gw.put
/-- a def that makes something and keeps all else -/
def Mak (H : Hp) (Q : VK) (R : V → Hp → Prop) : Prop := ∀ x H', R x H' → Same H H' → Q x H'
theorem SqL.same {K : PySem.W.Frag} {H H' : Hp} {a : Addr} {xs : List V} (s : Same H H') (h : SqL K H a xs) : SqL K H' a xs := s.seq h
end K1
namespace Ow
open PySem PySem.Spec PyProof.Rows L2
theorem for_str {x : Str} {g : TG} {tb : TS} {D : Ends} {σ : L2.St} {H : Hp} (Pv : Nat → L2.St → Hp → Prop) (h0 : Pv 0 σ H)
    (hs : ∀ i c σ H, x.cps[i]? = some c → Pv i σ H → g (.str ⟨#[c]⟩) σ H fun σ2 H2 => tb { D with nx := Pv (i + 1), ct := Pv (i + 1), bk := D.nx } σ2 H2) (hd : ∀ σ H, Pv x.cps.size σ H → D.nx σ H) :
    ∃ W : Nat → Nat → L2.St → Hp → Prop, (∃ m, W 0 m σ H) ∧ ∀ i m σ H, W i m σ H →
      ((Its x).stop i H ∧ D.nx σ H) ∨ ((Its x).go i H ∧ ∃ N : L2.St → Hp → Prop, (∀ σ' H', N σ' H' → ∃ m', m' < m ∧ W (i + 1) m' σ' H') ∧ ∀ v H', (Its x).yld i H v H' → g v σ H' fun σ2 H2 => tb { D with nx := N, ct := N, bk := D.nx } σ2 H2) := by
  refine ⟨fun i m σ H => m = x.cps.size - i ∧ i ≤ x.cps.size ∧ Pv i σ H, ⟨x.cps.size, by simp, Nat.zero_le _, h0⟩, ?_⟩
  rintro i m σ H ⟨rfl, hi, p⟩
  by_cases hlt : i < x.cps.size
  · refine .inr ⟨hlt, Pv (i + 1), fun σ' H' p' => ⟨x.cps.size - (i + 1), by omega, rfl, hlt, p'⟩, fun v H' y => ?_⟩
    obtain ⟨rfl, c, ec, rfl⟩ := y
    exact hs i c σ _ ec p
  · have e : i = x.cps.size := by omega
    subst e
    exact .inl ⟨Nat.le_refl _, hd σ H p⟩
theorem lc_str {x : Str} {g : TG} {tt : TT} {te : TE} {vs : List Nat} {σ : L2.St} {H1 : Hp} {D : Addr} {Qd : Hp → Prop} (Pv : Nat → Hp → Prop) (h0 : Pv 0 (upd H1 D (.lst [])))
    (hs : ∀ i c H, x.cps[i]? = some c → Pv i H → g (.str ⟨#[c]⟩) (wipe σ vs) H fun σ2 H2 => wipe σ2 vs = wipe σ vs ∧ tt σ2 H2 fun b H3 =>
      if b = true then te σ2 H3 fun y H4 => ∃ acc, H4 D = some (.lst acc) ∧ acc.length < sizeLine ∧ Pv (i + 1) (upd H4 D (.lst (acc ++ [y]))) else Pv (i + 1) H3) (hd : ∀ H, Pv x.cps.size H → Qd H) :
    ∃ W : Nat → Nat → Hp → Prop, (∃ m, W 0 m (upd H1 D (.lst []))) ∧ ∀ i m H, W i m H →
      ((Its x).stop i H ∧ Qd H) ∨ ((Its x).go i H ∧ ∃ Nx : Hp → Prop, (∀ H', Nx H' → ∃ m', m' < m ∧ W (i + 1) m' H') ∧ ∀ v H', (Its x).yld i H v H' → g v (wipe σ vs) H' fun σ2 H2 => wipe σ2 vs = wipe σ vs ∧ tt σ2 H2 fun b H3 =>
        if b = true then te σ2 H3 fun y H4 => ∃ acc, H4 D = some (.lst acc) ∧ acc.length < sizeLine ∧ Nx (upd H4 D (.lst (acc ++ [y]))) else Nx H3) := by
  refine ⟨fun i m H => m = x.cps.size - i ∧ i ≤ x.cps.size ∧ Pv i H, ⟨x.cps.size, by simp, Nat.zero_le _, h0⟩, ?_⟩
  rintro i m H ⟨rfl, hi, p⟩
  by_cases hlt : i < x.cps.size
  · refine .inr ⟨hlt, Pv (i + 1), fun H' p' => ⟨x.cps.size - (i + 1), by omega, rfl, hlt, p'⟩, fun v H' y => ?_⟩
    obtain ⟨rfl, c, ec, rfl⟩ := y
    exact hs i c _ ec p
  · have e : i = x.cps.size := by omega
    subst e
    exact .inl ⟨Nat.le_refl _, hd H p⟩
/-- a text times a number -/
theorem op_mul_str {X : Cx} : OpR X (binaryOp .Mult) (fun x y H Q => ∃ z n, x = .str z ∧ y = .int n ∧ 1 ≤ z.length ∧ 0 ≤ n ∧ (z.length : Int) * n ≤ 10000 ∧ Q (.str (Txt.mul z n)) H) := by
  intro pins s σ H x y v u Q I rx ry h
  obtain ⟨z, n, rfl, rfl, h1, h0, hz, q⟩ := h
  obtain ⟨t, rfl⟩ := rx
  obtain ⟨t', rfl⟩ := ry
  have hn : n ≤ 10000 := by
    have : (1 : Int) * n ≤ (z.length : Int) * n := Int.mul_le_mul_of_nonneg_right (by omega) h0
    omega
  have hl : (z.length : Int) ≤ 10000 ∨ n < 1 := by
    by_cases hn0 : n < 1
    · exact .inr hn0
    · left
      have : (z.length : Int) * 1 ≤ (z.length : Int) * n := Int.mul_le_mul_of_nonneg_left (by omega) (by omega)
      omega
  refine SB.mul ⟨?_, ?_, ?_⟩ (fun t' k => ⟨.str (Txt.mul z n), H, I.tok _, ⟨_, rfl⟩, q⟩)
  · rw [decide_eq_false (by omega), decide_eq_false (by omega)]
    rfl
  · intro a _ b
    have c : (2 ^ 63 - 1 : Int) / n ≥ (2 ^ 63 - 1 : Int) / 10000 := by
      have h3 : (2 ^ 63 - 1 : Int) / 10000 * n ≤ 2 ^ 63 - 1 := by
        have : (2 ^ 63 - 1 : Int) / 10000 * n ≤ (2 ^ 63 - 1 : Int) / 10000 * 10000 := Int.mul_le_mul_of_nonneg_left hn (by decide)
        have h4 : (2 ^ 63 - 1 : Int) / 10000 * 10000 ≤ 2 ^ 63 - 1 := by decide
        omega
      exact (Int.le_ediv_iff_mul_le (by omega)).mpr h3
    have d : (2 ^ 63 - 1 : Int) / 10000 ≥ 10001 := by decide
    omega
  · intro a _
    have e : ((z.length * n.toNat : Nat) : Int) = (z.length : Int) * n := by
      rw [Int.natCast_mul, Int.toNat_of_nonneg h0]
    have e2 : z.length * n.toNat ≤ 10000 := by omega
    show decide _ = false
    exact decide_eq_false (by
      have : sizeLine = 16777216 := rfl
      omega)
end Ow
namespace Ow
open PySem PySem.Spec PyProof.Rows L2 Tlz
/-- two data at x, y, comparable to depth n -/
structure Cp (K : PySem.W.Frag) (H : Hp) (n : Nat) (x y : V) (d e : PyData) : Prop where
  l : Dp K H x d
  r : Dp K H y e
  cl : d.canLay0 = true
  cr : e.canLay0 = true
  dl : d.depth ≤ n
  dr : e.depth ≤ n
  ok : okD n d e = true
  n60 : n ≤ 60
def rLtK (K : PySem.W.Frag) : R2 := fun x y H Q => ∃ n d e, Cp K H n x y d e ∧ Q (.bl (ltD n d e)) H
def rGtK (K : PySem.W.Frag) : R2 := fun x y H Q => ∃ n d e, Cp K H n x y d e ∧ Q (.bl (gtD n d e)) H
theorem op_ltK {X : Cx} {k : Nat} (hr : Room k X.A) : OpR X (compareOp .Lt) (rLtK X.K) := by
  intro pins s σ H x y v u Q I rx ry h
  obtain ⟨n, d, e, c, q⟩ := h
  obtain ⟨as, r1⟩ := Dp.reads I d x v c.l rx
  obtain ⟨bs, r2⟩ := Dp.reads I e y u c.r ry
  have hu := hr.units
  have c6 := c.n60
  exact rcLt n d e X.A s v u as bs r1 r2 c.cl c.cr c.dl c.ok (by omega) X.prog X.w X.xe (EP X pins σ Q) ⟨.bl _, H, I, rfl, q⟩
theorem op_gtK {X : Cx} {k : Nat} (hr : Room k X.A) : OpR X (compareOp .Gt) (rGtK X.K) := by
  intro pins s σ H x y v u Q I rx ry h
  obtain ⟨n, d, e, c, q⟩ := h
  obtain ⟨as, r1⟩ := Dp.reads I d x v c.l rx
  obtain ⟨bs, r2⟩ := Dp.reads I e y u c.r ry
  have hu := hr.units
  have c6 := c.n60
  exact rcGt n d e X.A s v u as bs r1 r2 c.cl c.cr c.dl c.ok (by omega) X.prog X.w X.xe (EP X pins σ Q) ⟨.bl _, H, I, rfl, q⟩
theorem shaped_of {d : PyData} {n : Nat} (c : d.canLay0 = true) (h : d.depth ≤ n) (hn : n ≤ 60) : SeqAt.shaped d = true := by
  unfold SeqAt.shaped
  rw [c, decide_eq_true (show d.depth ≤ 64 by omega)]
  rfl
end Ow
namespace K1
open PySem PySem.Spec PyProof.Rows L2 Ow Tlz
/-- the key of a value, as data -/
def vkD : V → PyData
  | .int i => .tuple [.int 0, .int i]
  | .str z => .tuple [.int 1, .str z]
  | _ => .none
def rkD (xs : List V) : PyData := .tuple (xs.map vkD)
def kD (s : Int) (n : Str) (row : List V) : PyData := .tuple [.int s, .str n, rkD row]
def kd2 (s : Int) (n : Str) : PyData := .tuple [.int s, .str n]
/-- the order o tells what <, == and > say of d and e -/
structure Agr (n : Nat) (d e : PyData) (o : Int) : Prop where
  lt : ltD n d e = decide (o < 0)
  eq : PyData.eqv d e = decide (o = 0)
  gt : gtD n d e = decide (0 < o)
theorem str_tri (x y : Str) : (x == y) = (!decide (x.cps.toList < y.cps.toList) && !decide (y.cps.toList < x.cps.toList)) := by
  by_cases h : x = y
  · subst h
    have n : ¬ x.cps.toList < x.cps.toList := List.lt_irrefl _
    simp [n]
  · have e : (x == y) = false := by simpa using h
    rw [e]
    symm
    rw [Bool.and_eq_false_iff]
    apply Classical.byContradiction
    intro z
    apply h
    have z1 : ¬ x.cps.toList < y.cps.toList := fun w => z (.inl (by rw [decide_eq_true w]; rfl))
    have z2 : ¬ y.cps.toList < x.cps.toList := fun w => z (.inr (by rw [decide_eq_true w]; rfl))
    have e2 : x.cps.toList = y.cps.toList := List.le_antisymm z2 z1
    cases x
    cases y
    simp only [Str.mk.injEq]
    exact Array.toList_inj.mp e2
theorem eqv_int (i j : Int) : PyData.eqv (.int i) (.int j) = (i == j) := by rw [PyData.eqv]
theorem eqv_str (x y : Str) : PyData.eqv (.str x) (.str y) = (x == y) := by rw [PyData.eqv]
theorem eqv_tup (xs ys : List PyData) : PyData.eqv (.tuple xs) (.tuple ys) = PyData.eqvAll xs ys := by rw [PyData.eqv]
theorem eqv_cons (x y : PyData) (xs ys : List PyData) : PyData.eqvAll (x :: xs) (y :: ys) = (PyData.eqv x y && PyData.eqvAll xs ys) := by rw [PyData.eqvAll]
theorem eqv_nil : PyData.eqvAll [] [] = true := by rw [PyData.eqvAll]
theorem eqv_nc (y : PyData) (ys : List PyData) : PyData.eqvAll [] (y :: ys) = false := by rw [PyData.eqvAll]
theorem eqv_cn (x : PyData) (xs : List PyData) : PyData.eqvAll (x :: xs) [] = false := by rw [PyData.eqvAll]
theorem int_tri (i j : Int) : (i == j) = (!decide (i < j) && !decide (j < i)) := by
  by_cases h : i = j
  · subst h; simp
  · have e : (i == j) = false := by simpa using h
    rw [e]
    rcases Int.lt_or_gt_of_ne h with z | z
    · simp [z]
    · simp [z]
/-- the keys of two values -/
theorem vk_all {x y : V} (sx : Scal x) (sy : Scal y) (n : Nat) : okD (n + 1) (vkD x) (vkD y) = true ∧ ltD (n + 1) (vkD x) (vkD y) = firstV x y ∧ gtD (n + 1) (vkD x) (vkD y) = firstV y x ∧
    PyData.eqv (vkD x) (vkD y) = (!firstV x y && !firstV y x) := by
  rcases sx with ⟨i, rfl, _⟩ | ⟨x, rfl, _⟩ <;> rcases sy with ⟨j, rfl, _⟩ | ⟨y, rfl, _⟩
  · simp only [vkD, okD, ltD, gtD, okL, ltL, gtL, eqv_int, eqv_tup, eqv_cons, eqv_nil, firstV, beq_self_eq_true, if_true, Bool.true_and, Bool.and_true, ← int_tri]
    cases h : (i == j) with
    | true =>
      have e : i = j := by simpa using h
      subst e
      simp
    | false => simp
  · have e : ((0 : Int) == 1) = false := by decide
    simp only [vkD, okD, ltD, gtD, okL, ltL, gtL, eqv_int, eqv_tup, eqv_cons, eqv_nil, firstV, e, if_false, Bool.false_and, Bool.false_eq_true]
    decide
  · have e : ((1 : Int) == 0) = false := by decide
    simp only [vkD, okD, ltD, gtD, okL, ltL, gtL, eqv_int, eqv_tup, eqv_cons, eqv_nil, firstV, e, if_false, Bool.false_and, Bool.false_eq_true]
    decide
  · simp only [vkD, okD, ltD, gtD, okL, ltL, gtL, eqv_int, eqv_str, eqv_tup, eqv_cons, eqv_nil, firstV, beq_self_eq_true, if_true, Bool.true_and, Bool.and_true, ← str_tri]
    cases h : (x == y) with
    | true =>
      have e : x = y := by simpa using h
      subst e
      have n : ¬ x.cps.toList < x.cps.toList := List.lt_irrefl _
      simp [n]
    | false => simp
theorem first_asym {x y : V} (sx : Scal x) (sy : Scal y) (h : firstV x y = true) : firstV y x = false := by
  rcases sx with ⟨i, rfl, _⟩ | ⟨x, rfl, _⟩ <;> rcases sy with ⟨j, rfl, _⟩ | ⟨y, rfl, _⟩
  · have h' : i < j := of_decide_eq_true h
    exact decide_eq_false (by omega)
  · rfl
  · exact absurd (show false = true from h) Bool.false_ne_true
  · have h' : x.cps.toList < y.cps.toList := of_decide_eq_true h
    exact decide_eq_false (List.lt_asymm h')
/-- the keys of two rows -/
theorem rk_all (n : Nat) : ∀ (xs ys : List V), (∀ x ∈ xs, Scal x) → (∀ y ∈ ys, Scal y) →
    okL (okD (n + 1)) (xs.map vkD) (ys.map vkD) = true ∧ ltL (ltD (n + 1)) (xs.map vkD) (ys.map vkD) = decide (orderV xs ys < 0) ∧
    gtL (gtD (n + 1)) (xs.map vkD) (ys.map vkD) = decide (0 < orderV xs ys) ∧ PyData.eqvAll (xs.map vkD) (ys.map vkD) = decide (orderV xs ys = 0)
  | [], [], _, _ => ⟨rfl, rfl, rfl, by rw [List.map_nil, eqv_nil]; rfl⟩
  | [], y :: ys, _, _ => ⟨rfl, rfl, rfl, by rw [List.map_nil, List.map_cons, eqv_nc]; rfl⟩
  | x :: xs, [], _, _ => ⟨rfl, rfl, rfl, by rw [List.map_nil, List.map_cons, eqv_cn]; rfl⟩
  | x :: xs, y :: ys, hx, hy => by
    have sx := hx x List.mem_cons_self
    have sy := hy y List.mem_cons_self
    obtain ⟨a1, a2, a3, a4⟩ := vk_all sx sy n
    obtain ⟨b1, b2, b3, b4⟩ := rk_all n xs ys (fun z m => hx z (List.mem_cons_of_mem _ m)) (fun z m => hy z (List.mem_cons_of_mem _ m))
    rw [List.map_cons, List.map_cons]
    unfold okL ltL gtL orderV
    rw [eqv_cons, a4, a2, a3, a1, b1, b2, b3, b4]
    cases h : firstV x y with
    | true =>
      have h2 := first_asym sx sy h
      rw [h2]
      simp
    | false =>
      cases h2 : firstV y x with
      | true => simp
      | false => simp
theorem Agr.row {xs ys : List V} (hx : ∀ x ∈ xs, Scal x) (hy : ∀ y ∈ ys, Scal y) : Agr 2 (rkD xs) (rkD ys) (orderV xs ys) ∧ okD 2 (rkD xs) (rkD ys) = true := by
  obtain ⟨b1, b2, b3, b4⟩ := rk_all 0 xs ys hx hy
  exact ⟨⟨b2, (eqv_tup _ _).trans b4, b3⟩, b1⟩
theorem Agr.one {x y : V} (sx : Scal x) (sy : Scal y) : Agr 1 (vkD x) (vkD y) (orderV [x] [y]) ∧ okD 1 (vkD x) (vkD y) = true := by
  obtain ⟨a1, a2, a3, a4⟩ := vk_all sx sy 0
  have e : orderV [x] [y] = if firstV x y = true then -1 else if firstV y x = true then 1 else 0 := by
    unfold orderV
    rfl
  rw [e]
  refine ⟨⟨?_, ?_, ?_⟩, a1⟩
  · rw [a2]
    cases h : firstV x y with
    | true => rfl
    | false => cases h2 : firstV y x with
      | true => rfl
      | false => rfl
  · rw [a4]
    cases h : firstV x y with
    | true => rw [first_asym sx sy h]; rfl
    | false => cases h2 : firstV y x with
      | true => rfl
      | false => rfl
  · rw [a3]
    cases h : firstV x y with
    | true => rw [first_asym sx sy h]; rfl
    | false => cases h2 : firstV y x with
      | true => rfl
      | false => rfl
/-- the order of two keys, as the law reckons it -/
def keyOrd (s : Int) (n : Str) (row : List V) (s' : Int) (n' : Str) (row' : List V) : Int :=
  if (!PyData.eqv (kd2 s n) (kd2 s' n')) = true then (if ltD 1 (kd2 s n) (kd2 s' n') = true then -1 else 1) else orderV row row'
theorem Agr.key {s s' : Int} {n n' : Str} {xs ys : List V} (hx : ∀ x ∈ xs, Scal x) (hy : ∀ y ∈ ys, Scal y) :
    Agr 3 (kD s n xs) (kD s' n' ys) (keyOrd s n xs s' n' ys) ∧ okD 3 (kD s n xs) (kD s' n' ys) = true := by
  obtain ⟨⟨r1, r2, r3⟩, r4⟩ := Agr.row hx hy
  have e2 : PyData.eqv (kd2 s n) (kd2 s' n') = ((s == s') && (n == n')) := by
    unfold kd2
    rw [eqv_tup, eqv_cons, eqv_cons, eqv_nil, eqv_int, eqv_str, Bool.and_true]
  have l2 : ltD 1 (kd2 s n) (kd2 s' n') = if (s == s') = true then (if (n == n') = true then false else decide (n.cps.toList < n'.cps.toList)) else decide (s < s') := by
    simp only [kd2, ltD, ltL, eqv_int, eqv_str]
  have e3 : PyData.eqv (kD s n xs) (kD s' n' ys) = ((s == s') && ((n == n') && PyData.eqv (rkD xs) (rkD ys))) := by
    unfold kD
    rw [eqv_tup, eqv_cons, eqv_cons, eqv_cons, eqv_nil, eqv_int, eqv_str, Bool.and_true]
  have l3 : ltD 3 (kD s n xs) (kD s' n' ys) = if (s == s') = true then (if (n == n') = true then (if PyData.eqv (rkD xs) (rkD ys) = true then false else ltD 2 (rkD xs) (rkD ys)) else decide (n.cps.toList < n'.cps.toList)) else decide (s < s') := by
    simp only [kD, ltD, ltL, eqv_int, eqv_str]
  have g3 : gtD 3 (kD s n xs) (kD s' n' ys) = if (s == s') = true then (if (n == n') = true then (if PyData.eqv (rkD xs) (rkD ys) = true then false else gtD 2 (rkD xs) (rkD ys)) else decide (n'.cps.toList < n.cps.toList)) else decide (s' < s) := by
    simp only [kD, gtD, gtL, eqv_int, eqv_str]
  have o3 : okD 3 (kD s n xs) (kD s' n' ys) = if (s == s') = true then (if (n == n') = true then (if PyData.eqv (rkD xs) (rkD ys) = true then true else okD 2 (rkD xs) (rkD ys)) else true) else true := by
    simp only [kD, okD, okL, eqv_int, eqv_str]
  have it := int_tri s s'
  have st := str_tri n n'
  unfold keyOrd
  rw [e2, l2]
  refine ⟨⟨?_, ?_, ?_⟩, ?_⟩
  · rw [l3]
    cases h1 : (s == s') with
    | false => cases h : decide (s < s') <;> simp
    | true =>
      cases h2 : (n == n') with
      | false => cases h : decide (n.cps.toList < n'.cps.toList) <;> simp
      | true =>
        rw [r1, r2]
        by_cases z : orderV xs ys = 0
        · simp [z]
        · simp [z]
  · rw [e3]
    cases h1 : (s == s') with
    | false => cases h : decide (s < s') <;> simp
    | true =>
      cases h2 : (n == n') with
      | false => cases h : decide (n.cps.toList < n'.cps.toList) <;> simp
      | true => rw [r2]; simp
  · rw [g3]
    cases h1 : (s == s') with
    | false =>
      rw [h1] at it
      cases h : decide (s < s') with
      | false =>
        rw [h] at it
        simp at it
        simp [it]
      | true =>
        have z : s < s' := of_decide_eq_true h
        simp
        omega
    | true =>
      cases h2 : (n == n') with
      | false =>
        rw [h2] at st
        cases h : decide (n.cps.toList < n'.cps.toList) with
        | false =>
          rw [h] at st
          simp at st
          simp [st]
        | true =>
          have z : n.cps.toList < n'.cps.toList := of_decide_eq_true h
          have z2 := List.lt_asymm z
          simp [z2]
      | true =>
        rw [r3, r2]
        by_cases z : orderV xs ys = 0
        · simp [z]
        · simp [z]
  · rw [o3, r4]
    split
    · split
      · split <;> rfl
      · rfl
    · rfl
end K1
namespace K1
open PySem PySem.Spec PyProof.Rows L2 Ow Tlz
/-! data without lists -/
mutual
def noL : PyData → Bool
  | .list _ => false
  | .tuple xs => noLs xs
  | _ => true
def noLs : List PyData → Bool
  | [] => true
  | x :: xs => noL x && noLs xs
end
mutual
theorem Dp.tk {K : PySem.W.Frag} {H H' : Hp} (t : Tk K H H') : ∀ (d : PyData) (v : V), noL d = true → Dp K H v d → Dp K H' v d
  | .none, _, _, .non => .non
  | .bool b, _, _, .bl _ => .bl b
  | .int i, _, _, .int _ => .int i
  | .str x, _, _, .str _ => .str x
  | .list _, _, h, _ => absurd h (by rw [noL]; exact Bool.false_ne_true)
  | .tuple xs, _, h, .tup s a => .tup (t _ _ s) (DpAll.tk t xs _ (by rw [noL] at h; exact h) a)
theorem DpAll.tk {K : PySem.W.Frag} {H H' : Hp} (t : Tk K H H') : ∀ (ds : List PyData) (vs : List V), noLs ds = true → DpAll K H vs ds → DpAll K H' vs ds
  | [], _, _, .nil => .nil
  | d :: ds, _, h, .cons a b => by
    rw [noLs, Bool.and_eq_true] at h
    exact .cons (Dp.tk t d _ h.1 a) (DpAll.tk t ds _ h.2 b)
end
theorem DpAll.snoc {K : PySem.W.Frag} {H : Hp} : ∀ {vs : List V} {ds : List PyData} {v : V} {d : PyData}, DpAll K H vs ds → Dp K H v d → DpAll K H (vs ++ [v]) (ds ++ [d])
  | _, _, _, _, .nil, h => .cons h .nil
  | _, _, _, _, .cons a b, h => .cons a (DpAll.snoc b h)
theorem noL_vk (v : V) : noL (vkD v) = true := by
  cases v <;> simp [vkD, noL, noLs]
theorem noLs_vk : ∀ xs : List V, noLs (xs.map vkD) = true
  | [] => by simp [noLs]
  | x :: xs => by rw [List.map_cons, noLs, noL_vk, noLs_vk xs]; rfl
/-- strings of values can be laid -/
theorem Pr.ok {z : Str} (h : Pr z) : PyData.canLay0 (.str z) = true := by
  rw [PyData.canLay0]
  show z.cps.all (fun c => decide (c < 0x110000)) = true
  rw [Array.all_eq_true]
  intro i hi
  have := h z.cps[i] (by simp)
  exact decide_eq_true (by omega)
theorem lay_vk {v : V} (h : Scal v) : (vkD v).canLay0 = true := by
  rcases h with ⟨i, rfl, _⟩ | ⟨z, rfl, p, _⟩
  · simp [vkD, PyData.canLay0, PyData.canLayAll0]
  · have := p.ok
    simp [vkD, PyData.canLay0, PyData.canLayAll0] at this ⊢
    exact this
theorem lays_vk : ∀ {xs : List V}, (∀ x ∈ xs, Scal x) → PyData.canLayAll0 (xs.map vkD) = true
  | [], _ => by simp [PyData.canLayAll0]
  | x :: xs, h => by
    rw [List.map_cons, PyData.canLayAll0, lay_vk (h x List.mem_cons_self), lays_vk fun z m => h z (List.mem_cons_of_mem _ m)]
    rfl
theorem deep_vk (v : V) : (vkD v).depth ≤ 1 := by
  cases v <;> simp [vkD, PyData.depth, PyData.depthAll]
theorem deeps_vk : ∀ xs : List V, PyData.depthAll (xs.map vkD) ≤ 1
  | [] => by simp [PyData.depthAll]
  | x :: xs => by
    rw [List.map_cons, PyData.depthAll]
    exact Nat.max_le.mpr ⟨deep_vk x, deeps_vk xs⟩
theorem lay_rk {xs : List V} (h : ∀ x ∈ xs, Scal x) : (rkD xs).canLay0 = true := by
  unfold rkD
  rw [PyData.canLay0]
  exact lays_vk h
theorem deep_rk (xs : List V) : (rkD xs).depth ≤ 2 := by
  unfold rkD
  rw [PyData.depth]
  have := deeps_vk xs
  omega
theorem lay_k {s : Int} {n : Str} {xs : List V} (p : Pr n) (h : ∀ x ∈ xs, Scal x) : (kD s n xs).canLay0 = true := by
  have a := p.ok
  have b := lay_rk h
  unfold kD
  rw [PyData.canLay0, PyData.canLayAll0, PyData.canLayAll0, PyData.canLayAll0, PyData.canLayAll0, a, b]
  simp [PyData.canLay0]
theorem deep_k (s : Int) (n : Str) (xs : List V) : (kD s n xs).depth ≤ 3 := by
  have := deep_rk xs
  unfold kD
  rw [PyData.depth, PyData.depthAll, PyData.depthAll, PyData.depthAll, PyData.depthAll, PyData.depth, PyData.depth]
  omega
theorem noL_rk (xs : List V) : noL (rkD xs) = true := by
  unfold rkD
  rw [noL]
  exact noLs_vk xs
theorem noL_k (s : Int) (n : Str) (xs : List V) : noL (kD s n xs) = true := by
  unfold kD
  rw [noL, noLs, noLs, noLs, noLs, noL_rk]
  simp [noL]

/-- x is an item with the key s, n, row -/
def ItemAt (K : PySem.W.Frag) (H : Hp) (x : V) (s : Int) (n : Str) (row : List V) : Prop := ∃ (a : Addr) (xs : List V), x = .ref a ∧ SqT K H a xs ∧
  Pr n ∧ (∀ y ∈ row, Scal y) ∧ row.length ≤ 1000 ∧
  ((∃ rest, xs = .str "relation" :: .str n :: rest ∧ s = 0 ∧ row = []) ∨ (∃ rest, xs = .str "structure" :: .str n :: rest ∧ s = 2 ∧ row = []) ∨
   (∃ rest, xs = .str "layout" :: .str n :: rest ∧ s = 3 ∧ row = []) ∨ ∃ r : Addr, xs = [.str "fact", .str n, .ref r] ∧ s = 1 ∧ SqT K H r row)
def KeyAt (K : PySem.W.Frag) (H : Hp) (x : V) (s : Int) (n : Str) (row : List V) : Prop := ∃ a r : Addr, x = .ref a ∧
  SqT K H a [.int s, .str n, .ref r] ∧ SqT K H r row ∧ Pr n ∧ (∀ y ∈ row, Scal y) ∧ row.length ≤ 1000
theorem ItemAt.tk {K : PySem.W.Frag} {H H' : Hp} {x : V} {s : Int} {n : Str} {row : List V} (t : Tk K H H') (h : ItemAt K H x s n row) : ItemAt K H' x s n row := by
  obtain ⟨a, xs, e, h1, h2, h3, h4, h5⟩ := h
  refine ⟨a, xs, e, t _ _ h1, h2, h3, h4, ?_⟩
  rcases h5 with h | h | h | ⟨r, e1, e2, e3⟩
  · exact .inl h
  · exact .inr (.inl h)
  · exact .inr (.inr (.inl h))
  · exact .inr (.inr (.inr ⟨r, e1, e2, t _ _ e3⟩))
theorem KeyAt.tk {K : PySem.W.Frag} {H H' : Hp} {x : V} {s : Int} {n : Str} {row : List V} (t : Tk K H H') (h : KeyAt K H x s n row) : KeyAt K H' x s n row := by
  obtain ⟨a, r, e, h1, h2, h3⟩ := h
  exact ⟨a, r, e, t _ _ h1, t _ _ h2, h3⟩
def spLKey (K : PySem.W.Frag) : Sp := fun vs H Q _ => ∃ (x : V) (s : Int) (n : Str) (row : List V), vs = [x] ∧ ItemAt K H x s n row ∧
  Mak H Q fun y H' => KeyAt K H' y s n row
def spVKey (K : PySem.W.Frag) : Sp := fun vs H Q _ => ∃ x : V, vs = [x] ∧ Scal x ∧ Mak H Q fun y H' => Dp K H' y (vkD x)
def spRKey (K : PySem.W.Frag) : Sp := fun vs H Q _ => ∃ (a : Addr) (xs : List V), vs = [.ref a] ∧ SqT K H a xs ∧ (∀ x ∈ xs, Scal x) ∧ xs.length ≤ 1000 ∧
  Mak H Q fun y H' => Dp K H' y (rkD xs)
def spKOrd (K : PySem.W.Frag) : Sp := fun vs H Q _ => ∃ (x : V) (s : Int) (n : Str) (row : List V), vs = [x] ∧ KeyAt K H x s n row ∧
  Mak H Q fun y H' => Dp K H' y (kD s n row)
def spLOrd (K : PySem.W.Frag) : Sp := fun vs H Q _ => ∃ (x y : V) (s s' : Int) (n n' : Str) (row row' : List V), vs = [x, y] ∧ KeyAt K H x s n row ∧ KeyAt K H y s' n' row' ∧
  Mak H Q fun z _ => z = .int (keyOrd s n row s' n' row')
def spItem (K : PySem.W.Frag) : Sp := fun vs H Q _ => ∃ p d : Addr, vs = [.ref p] ∧ Rng d H p ∧
  Drw p d H Q fun x H' => ∃ (s : Int) (n : Str) (row : List V), ItemAt K H' x s n row
def spAgrees (K : PySem.W.Frag) : Sp := fun vs H Q _ => ∃ (x y : V) (n : Nat) (ds es : List PyData) (o : Int), vs = [x, y, .int o] ∧
  Cp K H n x y (.tuple ds) (.tuple es) ∧ Agr n (.tuple ds) (.tuple es) o ∧ Mak H Q fun z _ => z = .bl true
/-- two equal data without lists, n deep at most -/
def spSame (K : PySem.W.Frag) (n : Nat) : Sp := fun vs H Q _ => ∃ (x y : V) (d : PyData), vs = [x, y] ∧ Dp K H x d ∧ Dp K H y d ∧ d.canLay0 = true ∧ noL d = true ∧
  d.depth ≤ n ∧ n ≤ 50 ∧ Mak H Q fun z _ => z = .bl true
end K1
namespace K1
open PySem PySem.Spec PyProof.Rows L2 Ow Tlz
abbrev svalue_key : Stmt := topS 2
abbrev Nvalue_key : List Str := ["value"]
theorem scvalue_key : FnScope Nvalue_key ["value"] (defScope svalue_key) := ⟨rfl, rfl, rfl, by decide +kernel, rfl, by decide +kernel, by decide +kernel⟩
abbrev srow_key : Stmt := topS 3
abbrev Nrow_key : List Str := ["row", "value"]
theorem scrow_key : FnScope Nrow_key ["row"] (defScope srow_key) := ⟨rfl, rfl, rfl, by decide +kernel, rfl, by decide +kernel, by decide +kernel⟩
section
variable {P : Program} {w : World} {K : PySem.W.Frag} {mg : Str → Option Value} {base : Heap}
theorem ok_vkey {f : Addr} {fd : FuncData} (F : Fun K "value_key" "value_key" svalue_key f fd) (T : Bl mg) :
    FnOk P w K mg base CX0 1 f fd ["value"] (spVKey K) := by
  refine F.ok scvalue_key (fun vs H Q E h => ?_) (fun cdv A outer s H vs Q E hr h => ?_)
  · obtain ⟨x, rfl, _⟩ := h
    rfl
  · obtain ⟨x, rfl, sx, q⟩ := h
    refine ⟨_, (pss_cons (ps_if (pt_val (pe_callB call_isi (by rfl) T.isinstance (by decide +kernel) (pa_cons (pv 0) (pa_cons (pe_ty "str" (by rfl) T.str (by decide +kernel)) pa_nil)))) (pss_one (ps_ret (pe_tup (pa_cons pe_int (pa_cons (pv 0) pa_nil))))) pss_nil)
      (pss_one (ps_ret (pe_tup (pa_cons pe_int (pa_cons (pv 0) pa_nil)))))), ?_⟩
    rcases sx with ⟨i, rfl, _⟩ | ⟨z, rfl, _⟩
    · refine ⟨_, rfl, _, _, .type "int", .type "str", false, rfl, .ty _, .base (.int i), kit_ty (by decide +kernel), ?_⟩
      refine ⟨_, rfl, iteF ?_⟩
      refine ⟨_, rfl, sz 2, fun t nt => q _ _ ?_ (Same.new nt)⟩
      exact .tup (SqT.of upd_same) (.cons (.int 0) (.cons (.int i) .nil))
    · refine ⟨_, rfl, _, _, .type "str", .type "str", true, rfl, .ty _, .base (.str z), kit_ty (by decide +kernel), ?_⟩
      refine ⟨_, rfl, iteT ?_⟩
      refine ⟨_, rfl, sz 2, fun t nt => q _ _ ?_ (Same.new nt)⟩
      exact .tup (SqT.of upd_same) (.cons (.int 1) (.cons (.str z) .nil))
theorem ok_rkey {f : Addr} {fd : FuncData} (F : Fun K "row_key" "row_key" srow_key f fd) (T : Bl mg)
    (Dvalue_key : Kn P w K mg base 1 "value_key" ["value"] (spVKey K)) :
    FnOk P w K mg base CX0 2 f fd ["row"] (spRKey K) := by
  refine F.ok scrow_key (fun vs H Q E h => ?_) (fun cdv A outer s H vs Q E hr h => ?_)
  · obtain ⟨a, xs, rfl, _⟩ := h
    rfl
  · obtain ⟨a, xs, rfl, hx, sx, lx, q⟩ := h
    refine ⟨_, (pss_one (ps_ret (pe_callTy call_tuple_of (by rfl) T.tuple (by decide +kernel) (pa_cons (pe_lc (own := [("value", 1)]) (g := gName 1) rfl scrow_key.nd (pi_tup (pv 0)) (blkOk_by (own := [("value", 1)]) (N := Nrow_key) (sc := defScope srow_key) (by decide +kernel)) (fun _ _ _ _ _ => pg_name (i := 1) scrow_key.nd rfl (Or.inl rfl)) (fun _ _ _ _ _ => pts_nil) (fun _ _ _ _ _ => (pe_kn Dvalue_key hr (pa_cons (pv 1) pa_nil)))) pa_nil)))), ?_⟩
    refine ⟨_, rfl, a, rfl, ⟨_, hx⟩, fun D nD => lc_tup (K := K) (a := a) (xs := xs) (fun i H4 => ∃ ks : List V, H4 D = some (.lst ks) ∧ ks.length = i ∧ Same H H4 ∧
      DpAll K H4 ks ((xs.take i).map vkD)) ⟨[], upd_same, rfl, Same.new nD, .nil⟩ (fun i H4 hi hP => ?_) (fun i x H4 hi hP => ?_) (fun H4 hP => ?_)⟩
    · obtain ⟨ks, _, _, sm, _⟩ := hP
      exact Tk.same sm _ _ hx
    · obtain ⟨ks, eD, lk, sm, da⟩ := hP
      refine ⟨rfl, ?_⟩
      refine ⟨_, rfl, x, rfl, sx x (List.mem_of_getElem? hi), ?_⟩
      intro y H5 dy s5
      have hl : i < xs.length := (List.getElem?_eq_some_iff.mp hi).1
      have t5 : Tk K H4 H5 := Tk.same s5
      have eD5 := s5 _ _ eD
      refine ⟨ks, eD5, small (m := 1000) (by omega) (by decide), ks ++ [y], upd_same, by rw [List.length_append, lk]; rfl, Same.over (sm.trans s5) nD, ?_⟩
      have t6 : Tk K H5 (upd H5 D (.lst (ks ++ [y]))) := Tk.put eD5
      rw [List.take_add_one, hi]
      rw [List.map_append]
      exact DpAll.snoc (DpAll.tk (t5.trans t6) _ _ (noLs_vk _) da) (Dp.tk t6 _ _ (noL_vk x) dy)
    · obtain ⟨ks, eD, lk, sm, da⟩ := hP
      rw [List.take_length] at da
      refine ⟨D, ks, rfl, .inl ⟨SqL.of eD, fun l nl => q _ _ ?_ (sm.trans (Same.new nl))⟩⟩
      exact .tup (SqT.of upd_same) (DpAll.tk (Tk.same (Same.new nl)) _ _ (noLs_vk _) da)
end
end K1
namespace K1
open PySem PySem.Spec PyProof.Rows L2 Ow Tlz
/-! the order of rows -/
theorem cps_inj {x y : Str} (h : x.cps.toList = y.cps.toList) : x = y := by
  cases x
  cases y
  simp only [Str.mk.injEq]
  exact Array.toList_inj.mp h
theorem str_tot (x y : Str) : x.cps.toList < y.cps.toList ∨ x = y ∨ y.cps.toList < x.cps.toList := by
  by_cases h1 : x.cps.toList < y.cps.toList
  · exact .inl h1
  · by_cases h2 : y.cps.toList < x.cps.toList
    · exact .inr (.inr h2)
    · exact .inr (.inl (cps_inj (List.le_antisymm h2 h1)))
theorem first_tot {x y : V} (sx : Scal x) (sy : Scal y) : firstV x y = true ∨ x = y ∨ firstV y x = true := by
  rcases sx with ⟨i, rfl, _⟩ | ⟨x, rfl, _⟩ <;> rcases sy with ⟨j, rfl, _⟩ | ⟨y, rfl, _⟩
  · rcases Int.lt_trichotomy i j with h | h | h
    · exact .inl (decide_eq_true h)
    · exact .inr (.inl (by rw [h]))
    · exact .inr (.inr (decide_eq_true h))
  · exact .inl rfl
  · exact .inr (.inr rfl)
  · rcases str_tot x y with h | h | h
    · exact .inl (decide_eq_true h)
    · exact .inr (.inl (by rw [h]))
    · exact .inr (.inr (decide_eq_true h))
theorem first_irr {x : V} (sx : Scal x) : firstV x x = false := by
  rcases sx with ⟨i, rfl, _⟩ | ⟨x, rfl, _⟩
  · exact decide_eq_false (by omega)
  · exact decide_eq_false (List.lt_irrefl _)
theorem first_trans {x y z : V} (sx : Scal x) (sy : Scal y) (sz : Scal z) (h : firstV x y = true) (g : firstV y z = true) : firstV x z = true := by
  rcases sx with ⟨i, rfl, _⟩ | ⟨x, rfl, _⟩ <;> rcases sy with ⟨j, rfl, _⟩ | ⟨y, rfl, _⟩ <;> rcases sz with ⟨k, rfl, _⟩ | ⟨z, rfl, _⟩
  · have a : i < j := of_decide_eq_true h
    have b : j < k := of_decide_eq_true g
    exact decide_eq_true (by omega)
  · rfl
  · exact absurd (show false = true from g) Bool.false_ne_true
  · rfl
  · exact absurd (show false = true from h) Bool.false_ne_true
  · exact absurd (show false = true from h) Bool.false_ne_true
  · exact absurd (show false = true from g) Bool.false_ne_true
  · have a : x.cps.toList < y.cps.toList := of_decide_eq_true h
    have b : y.cps.toList < z.cps.toList := of_decide_eq_true g
    exact decide_eq_true (List.lt_trans a b)
def Rlt (xs ys : List V) : Prop := orderV xs ys < 0
instance (xs ys : List V) : Decidable (Rlt xs ys) := inferInstanceAs (Decidable (_ < _))
theorem order_cons (x y : V) (xs ys : List V) : orderV (x :: xs) (y :: ys) = if firstV x y = true then -1 else if firstV y x = true then 1 else orderV xs ys := by
  rw [orderV]
theorem rlt_cons {x y : V} {xs ys : List V} (sx : Scal x) (sy : Scal y) : Rlt (x :: xs) (y :: ys) ↔ firstV x y = true ∨ (x = y ∧ Rlt xs ys) := by
  unfold Rlt
  rw [order_cons]
  rcases first_tot sx sy with h | h | h
  · rw [if_pos h]
    exact ⟨fun _ => .inl h, fun _ => by decide⟩
  · subst h
    rw [first_irr sx, if_neg Bool.false_ne_true, if_neg Bool.false_ne_true]
    exact ⟨fun z => .inr ⟨rfl, z⟩, fun z => z.elim (fun w => absurd w Bool.false_ne_true) (·.2)⟩
  · have h2 := first_asym sy sx h
    rw [h2, if_neg Bool.false_ne_true, if_pos h]
    refine ⟨fun z => absurd z (by decide), fun z => z.elim (fun w => absurd w Bool.false_ne_true) fun w => ?_⟩
    rw [w.1, first_irr sy] at h
    exact absurd h Bool.false_ne_true
theorem rlt_trans : ∀ {xs ys zs : List V}, (∀ x ∈ xs, Scal x) → (∀ y ∈ ys, Scal y) → (∀ z ∈ zs, Scal z) → Rlt xs ys → Rlt ys zs → Rlt xs zs
  | [], [], _, _, _, _, h, _ => absurd h (by decide)
  | [], _ :: _, [], _, _, _, _, g => absurd g (by unfold Rlt orderV; decide)
  | [], _ :: _, _ :: _, _, _, _, _, _ => by unfold Rlt orderV; decide
  | _ :: _, [], _, _, _, _, h, _ => absurd h (by unfold Rlt orderV; decide)
  | _ :: _, _ :: _, [], _, _, _, _, g => absurd g (by unfold Rlt orderV; decide)
  | x :: xs, y :: ys, z :: zs, hx, hy, hz, h, g => by
    have sx := hx x List.mem_cons_self
    have sy := hy y List.mem_cons_self
    have sz := hz z List.mem_cons_self
    rw [rlt_cons sx sy] at h
    rw [rlt_cons sy sz] at g
    rw [rlt_cons sx sz]
    rcases h with h | ⟨e, h⟩ <;> rcases g with g | ⟨e2, g⟩
    · exact .inl (first_trans sx sy sz h g)
    · rw [← e2]; exact .inl h
    · rw [e]; exact .inl g
    · exact .inr ⟨e.trans e2, rlt_trans (fun v m => hx v (List.mem_cons_of_mem _ m)) (fun v m => hy v (List.mem_cons_of_mem _ m)) (fun v m => hz v (List.mem_cons_of_mem _ m)) h g⟩
theorem rlt_irr {xs : List V} (hx : ∀ x ∈ xs, Scal x) : ¬ Rlt xs xs := by
  induction xs with
  | nil => decide
  | cons x xs ih =>
    rw [rlt_cons (hx x List.mem_cons_self) (hx x List.mem_cons_self)]
    intro h
    rcases h with h | ⟨_, h⟩
    · rw [first_irr (hx x List.mem_cons_self)] at h
      exact Bool.false_ne_true h
    · exact ih (fun v m => hx v (List.mem_cons_of_mem _ m)) h
/-! lists of rows -/
def rrefs (rs : List (Addr × List V)) : List V := rs.map fun t => .ref t.1
def RowsOk (K : PySem.W.Frag) (H : Hp) (rs : List (Addr × List V)) : Prop := ∀ t ∈ rs, SqT K H t.1 t.2 ∧ (∀ x ∈ t.2, Scal x) ∧ t.2.length ≤ 10
theorem rrefs_get {rs : List (Addr × List V)} {i : Nat} {x : V} (h : (rrefs rs)[i]? = some x) : ∃ t, rs[i]? = some t ∧ x = .ref t.1 := by
  unfold rrefs at h
  rw [List.getElem?_map] at h
  cases e : rs[i]? with
  | none => rw [e] at h; cases h
  | some t => rw [e] at h; exact ⟨t, rfl, (Option.some.inj h).symm⟩
theorem rrefs_at {rs : List (Addr × List V)} {i : Nat} {t : Addr × List V} (h : rs[i]? = some t) : (rrefs rs)[i]? = some (.ref t.1) := by
  unfold rrefs
  rw [List.getElem?_map, h]
  rfl
theorem RowsOk.tk {K : PySem.W.Frag} {H H' : Hp} {rs : List (Addr × List V)} (t : Tk K H H') (h : RowsOk K H rs) : RowsOk K H' rs := fun u m => ⟨t _ _ (h u m).1, (h u m).2⟩
theorem RowsOk.snoc {K : PySem.W.Frag} {H : Hp} {rs : List (Addr × List V)} {q : Addr} {xs : List V} (h : RowsOk K H rs) (hq : SqT K H q xs) (sx : ∀ x ∈ xs, Scal x) (lx : xs.length ≤ 10) : RowsOk K H (rs ++ [(q, xs)]) := by
  intro u m
  rcases List.mem_append.mp m with m | m
  · exact h u m
  · rw [List.mem_singleton.mp m]
    exact ⟨hq, sx, lx⟩
theorem rrefs_snoc {rs : List (Addr × List V)} {t : Addr × List V} : rrefs (rs ++ [t]) = rrefs rs ++ [.ref t.1] := by
  unfold rrefs
  rw [List.map_append]
  rfl
theorem rrefs_len (rs : List (Addr × List V)) : (rrefs rs).length = rs.length := by unfold rrefs; rw [List.length_map]
theorem RowsOk.same {K : PySem.W.Frag} {H H' : Hp} {rs : List (Addr × List V)} (s : Same H H') (h : RowsOk K H rs) : RowsOk K H' rs := h.tk (Tk.same s)
/-- the rows stand in their order -/
def Srt (rs : List (Addr × List V)) : Prop := rs.Pairwise fun a b => Rlt a.2 b.2
/-- n is the first place whose row is not before row -/
def Place (rs : List (Addr × List V)) (row : List V) (n : Nat) : Prop := (∀ j t, j < n → rs[j]? = some t → Rlt t.2 row) ∧ ∀ j t, n ≤ j → rs[j]? = some t → ¬ Rlt t.2 row
def spPlace (K : PySem.W.Frag) : Sp := fun vs H Q _ => ∃ (l r : Addr) (rs : List (Addr × List V)) (row : List V), vs = [.ref l, .ref r] ∧ SqL K H l (rrefs rs) ∧ RowsOk K H rs ∧ SqT K H r row ∧ (∀ x ∈ row, Scal x) ∧ row.length ≤ 10 ∧ rs.length ≤ 1000 ∧
  ∀ (n : Nat) H', n ≤ rs.length → (Srt rs → Place rs row n) → Same H H' → Q (.int (n : Int)) H'
abbrev splace_of : Stmt := topS 5
abbrev Nplace_of : List Str := ["rows", "row", "wanted", "low", "high", "middle"]
theorem scplace_of : FnScope Nplace_of ["rows", "row"] (defScope splace_of) := ⟨rfl, rfl, rfl, by decide +kernel, rfl, by decide +kernel, by decide +kernel⟩
def muP : L2.St → Hp → Nat := fun σ _ => match σ with
  | _ :: _ :: _ :: some (.int lo) :: some (.int hi) :: _ => (hi - lo).toNat
  | _ => 0
theorem srt_lt {rs : List (Addr × List V)} (h : Srt rs) {i j : Nat} {a b : Addr × List V} (ha : rs[i]? = some a) (hb : rs[j]? = some b) (l : i < j) : Rlt a.2 b.2 := by
  obtain ⟨pa, ea⟩ := List.getElem?_eq_some_iff.mp ha
  obtain ⟨pb, eb⟩ := List.getElem?_eq_some_iff.mp hb
  rw [← ea, ← eb]
  exact List.pairwise_iff_getElem.mp h i j pa pb l
section
variable {P : Program} {w : World} {K : PySem.W.Frag} {mg : Str → Option Value} {base : Heap}
theorem ok_place {f : Addr} {fd : FuncData} (F : Fun K "place_of" "place_of" splace_of f fd) (T : Bl mg)
    (Drow_key : Kn P w K mg base 2 "row_key" ["row"] (spRKey K)) :
    FnOk P w K mg base CX0 3 f fd ["rows", "row"] (spPlace K) := by
  refine F.ok scplace_of (fun vs H Q E h => ?_) (fun cdv A outer s H vs Q E hr h => ?_)
  · obtain ⟨l, r, rs, row, rfl, _⟩ := h
    rfl
  · obtain ⟨l, r, rs, row, rfl, hl, hR, hrow, sr, lr, lrs, q⟩ := h
    refine ⟨_, (pss_cons (ps_set (i := 2) scplace_of.nd rfl (.inl rfl) (pe_kn Drow_key hr (pa_cons (pv 1) pa_nil)))
      (pss_cons (ps_set (i := 3) scplace_of.nd rfl (.inl rfl) pe_int)
      (pss_cons (ps_set (i := 4) scplace_of.nd rfl (.inl rfl) (pe_callB call_len_seq (by rfl) T.len PySem.boot_len (pa_cons (pv 0) pa_nil)))
      (pss_cons (ps_while PassesOwn.never (pt_cmpR op_lt (pv 3) (pv 4) (nomark _))
        (pss_cons (ps_set (i := 5) scplace_of.nd rfl (.inl rfl) (pe_op op_fdiv (pe_op op_add (pv 3) (pv 4)) pe_int))
        (pss_one (ps_if (pt_cmpR (op_ltK hr) (pe_kn Drow_key hr (pa_cons (pe_ix ix_list (pv 0) (pv 5) (fun _ _ => rfl)) pa_nil)) (pv 2) (nomark _))
          (pss_one (ps_set (i := 3) scplace_of.nd rfl (.inl rfl) (pe_op op_add (pv 5) pe_int)))
          (pss_one (ps_set (i := 4) scplace_of.nd rfl (.inl rfl) (pv 5)))))))
      (pss_one (ps_ret (pv 3))))))), ?_⟩
    refine ⟨_, rfl, r, row, rfl, hrow, sr, by omega, fun y H1 dy s1 => ?_⟩
    refine ⟨_, rfl, l, rrefs rs, rfl, .inl (s1.seq hl), ?_⟩
    refine while_by (fun σ H2 => ∃ (lo hi : Nat) (y5 : Option V), σ = [some (.ref l), some (.ref r), some y, some (.int (lo : Int)), some (.int (hi : Int)), y5] ∧ Same H1 H2 ∧ lo ≤ hi ∧ hi ≤ rs.length ∧
        (Srt rs → (∀ j t, j < lo → rs[j]? = some t → Rlt t.2 row) ∧ ∀ j t, hi ≤ j → rs[j]? = some t → ¬ Rlt t.2 row)) muP
      ⟨0, rs.length, none, by rw [rrefs_len]; rfl, Same.refl _, Nat.zero_le _, Nat.le_refl _, fun _ => ⟨fun j t h => absurd h (Nat.not_lt_zero _), fun j t h e => by
        have := (List.getElem?_eq_some_iff.mp e).1
        omega⟩⟩ ?_ ?_
    · rintro σ H2 ⟨lo, hi, y5, rfl, s2, h1, h2, inv⟩
      refine ⟨_, rfl, _, rfl, _, _, rfl, rfl, _, rfl, ite2 (fun e => ?_) (fun e => ?_)⟩
      · have e1 : (lo : Int) < (hi : Int) := of_decide_eq_true e
        have lm : (lo + hi) / 2 < rs.length := by omega
        have em := List.getElem?_eq_getElem lm
        generalize hm : (lo + hi) / 2 = m at lm em
        obtain ⟨ht, st, lt⟩ := hR rs[m] (List.getElem_mem lm)
        have emi : (((lo : Int) + (hi : Int)) / 2) = ((m : Nat) : Int) := by omega
        refine ⟨_, rfl, _, rfl, _, _, rfl, rfl, _, 2, rfl, rfl, ⟨by decide, by decide⟩, ?_⟩
        refine ⟨_, rfl, _, rfl, l, rrefs rs, _, _, rfl, rfl, (s1.trans s2).seq hl, at_of (j := m) (by omega) (rrefs_at em), rs[m].1, rs[m].2, rfl, Tk.same (s1.trans s2) _ _ ht, st, by omega, fun z H3 dz s3 => ?_⟩
        obtain ⟨ag, okd⟩ := Agr.row st sr
        refine ⟨_, rfl, 2, _, _, ⟨dz, Dp.tk (Tk.same (s2.trans s3)) _ _ (noL_rk row) dy, lay_rk st, lay_rk sr, deep_rk _, deep_rk _, okd, by decide⟩, _, rfl, ?_⟩
        rw [ag.lt]
        refine ite2 (fun e2 => ?_) (fun e2 => ?_)
        · have e3 : Rlt rs[m].2 row := of_decide_eq_true e2
          have e5 : ([some (.ref l), some (.ref r), some y, some (.int (((lo : Int) + (hi : Int)) / 2 + 1)), some (.int (hi : Int)), some (.int (((lo : Int) + (hi : Int)) / 2))] : L2.St) =
              [some (.ref l), some (.ref r), some y, some (.int ((m + 1 : Nat) : Int)), some (.int (hi : Int)), some (.int (((lo : Int) + (hi : Int)) / 2))] := by
            rw [emi]
            rfl
          refine ⟨_, rfl, _, _, rfl, rfl, ⟨m + 1, hi, some (.int (((lo : Int) + (hi : Int)) / 2)), e5, s2.trans s3, by omega, h2, fun srt => ⟨fun j t hj et => ?_, (inv srt).2⟩⟩, ?_⟩
          · by_cases ej : j = m
            · subst ej
              rw [em] at et
              rw [← Option.some.inj et]
              exact e3
            · exact rlt_trans (hR t (List.mem_of_getElem? et)).2.1 st sr (srt_lt srt et em (by omega)) e3
          · show ((hi : Int) - (((lo : Int) + (hi : Int)) / 2 + 1)).toNat < ((hi : Int) - (lo : Int)).toNat
            omega
        · have e3 : ¬ Rlt rs[m].2 row := fun z => e2 (decide_eq_true z)
          have e5 : ([some (.ref l), some (.ref r), some y, some (.int (lo : Int)), some (.int (((lo : Int) + (hi : Int)) / 2)), some (.int (((lo : Int) + (hi : Int)) / 2))] : L2.St) =
              [some (.ref l), some (.ref r), some y, some (.int (lo : Int)), some (.int (m : Int)), some (.int (((lo : Int) + (hi : Int)) / 2))] := by
            rw [emi]
          refine ⟨_, rfl, ⟨lo, m, some (.int (((lo : Int) + (hi : Int)) / 2)), e5, s2.trans s3, by omega, by omega, fun srt => ⟨(inv srt).1, fun j t hj et => ?_⟩⟩, ?_⟩
          · by_cases ej : j = m
            · subst ej
              rw [em] at et
              rw [← Option.some.inj et]
              exact e3
            · intro z
              exact e3 (rlt_trans st (hR t (List.mem_of_getElem? et)).2.1 sr (srt_lt srt em et (by omega)) z)
          · show ((((lo : Int) + (hi : Int)) / 2) - (lo : Int)).toNat < ((hi : Int) - (lo : Int)).toNat
            omega
      · have e1 : ¬ (lo : Int) < (hi : Int) := fun z => e (decide_eq_true z)
        have e2 : hi = lo := by omega
        subst e2
        exact ⟨_, rfl, q hi _ h2 inv (s1.trans s2)⟩
    · rintro σ H2 Q1 Q2 hq ⟨v, hv, u, hu, i, j, hi, hj, k, hk, z⟩
      exact ⟨v, hv, u, hu, i, j, hi, hj, k, hk, hq _ _ z⟩
end
end K1
namespace K1
open PySem PySem.Spec PyProof.Rows L2 Ow Tlz
/-! tables by names -/
section
variable {β : Type}
def valG (l : List (Str × β)) (k : Str) : Option β := (l.find? fun e => decide (e.1 = k)).map (·.2)
def putG (l : List (Str × β)) (k : Str) (b : β) : List (Str × β) := if (l.any fun e => decide (e.1 = k)) = true then l.map (fun e => if e.1 = k then (e.1, b) else e) else l ++ [(k, b)]
def kvG (vv : β → V) (l : List (Str × β)) : List (Key × V) := l.map fun e => ((Sum.inr e.1 : Key), vv e.2)
theorem inr_iff (a b : Str) : ((Sum.inr a : Key) = Sum.inr b) ↔ a = b := ⟨fun h => Sum.inr.inj h, fun h => by rw [h]⟩
theorem kvG_any (vv : β → V) (l : List (Str × β)) (k : Str) : ((kvG vv l).any fun e => decide (e.1 = (Sum.inr k : Key))) = l.any fun e => decide (e.1 = k) := by
  unfold kvG
  rw [List.any_map]
  congr 1
  funext e
  exact decide_eq_decide.mpr (inr_iff _ _)
theorem kvG_put (vv : β → V) (l : List (Str × β)) (k : Str) (b : β) : putK (kvG vv l) (Sum.inr k) (vv b) = kvG vv (putG l k b) := by
  unfold putK putG
  rw [kvG_any]
  split
  · unfold kvG
    rw [List.map_map, List.map_map]
    refine List.map_congr_left fun e _ => ?_
    show (if (Sum.inr e.1 : Key) = Sum.inr k then ((Sum.inr e.1 : Key), vv b) else (Sum.inr e.1, vv e.2)) = _
    by_cases h : e.1 = k
    · rw [if_pos ((inr_iff _ _).mpr h)]
      show _ = ((Sum.inr (if e.1 = k then (e.1, b) else e).1 : Key), vv (if e.1 = k then (e.1, b) else e).2)
      rw [if_pos h]
    · rw [if_neg (fun z => h ((inr_iff _ _).mp z))]
      show _ = ((Sum.inr (if e.1 = k then (e.1, b) else e).1 : Key), vv (if e.1 = k then (e.1, b) else e).2)
      rw [if_neg h]
  · unfold kvG
    rw [List.map_append]
    rfl
theorem kvG_val (vv : β → V) (k : Str) : ∀ l : List (Str × β), valV (kvG vv l) (Sum.inr k) = (valG l k).map vv
  | [] => rfl
  | e :: l => by
    have ih := kvG_val vv k l
    by_cases h : e.1 = k
    · have h1 : valV (kvG vv (e :: l)) (Sum.inr k) = some (vv e.2) := valV_pos (p := ((Sum.inr e.1 : Key), vv e.2)) ((inr_iff _ _).mpr h)
      rw [h1]
      unfold valG
      rw [List.find?_cons, decide_eq_true h]
      rfl
    · have h1 : valV (kvG vv (e :: l)) (Sum.inr k) = valV (kvG vv l) (Sum.inr k) := valV_neg (p := ((Sum.inr e.1 : Key), vv e.2)) (fun z => h ((inr_iff _ _).mp z))
      rw [h1, ih]
      unfold valG
      rw [List.find?_cons, decide_eq_false h]
theorem valG_mem {l : List (Str × β)} {k : Str} {b : β} (h : valG l k = some b) : (k, b) ∈ l := by
  unfold valG at h
  cases e : l.find? fun e => decide (e.1 = k) with
  | none => rw [e] at h; cases h
  | some x =>
    rw [e] at h
    have h1 := List.find?_some e
    have h2 := List.mem_of_find?_eq_some e
    have h3 : x.1 = k := of_decide_eq_true h1
    have h4 : x.2 = b := Option.some.inj h
    rw [← h3, ← h4]
    exact h2
theorem valG_none {l : List (Str × β)} {k : Str} (h : valG l k = none) : ∀ e ∈ l, e.1 ≠ k := by
  unfold valG at h
  intro e m he
  cases z : l.find? fun e => decide (e.1 = k) with
  | none =>
    have := List.find?_eq_none.mp z e m
    exact this (decide_eq_true he)
  | some x => rw [z] at h; cases h
theorem any_val (l : List (Str × β)) (k : Str) : (l.any fun e => decide (e.1 = k)) = (valG l k).isSome := by
  cases h : valG l k with
  | none =>
    rw [Option.isSome_none, List.any_eq_false]
    intro e m
    rw [decide_eq_false (valG_none h e m)]
    exact Bool.false_ne_true
  | some b =>
    rw [Option.isSome_some, List.any_eq_true]
    exact ⟨_, valG_mem h, decide_eq_true rfl⟩
theorem putG_new {l : List (Str × β)} {k : Str} (b : β) (h : valG l k = none) : putG l k b = l ++ [(k, b)] := by
  unfold putG
  rw [any_val, h]
  rfl
theorem putG_len (l : List (Str × β)) (k : Str) (b : β) : (putG l k b).length ≤ l.length + 1 := by
  unfold putG
  split
  · rw [List.length_map]; omega
  · rw [List.length_append]; exact Nat.le_refl _
theorem putG_mem {l : List (Str × β)} {k : Str} {b : β} {e : Str × β} (h : e ∈ putG l k b) : e = (k, b) ∨ (e ∈ l ∧ e.1 ≠ k) := by
  unfold putG at h
  split at h
  · obtain ⟨x, mx, ex⟩ := List.mem_map.mp h
    by_cases z : x.1 = k
    · rw [if_pos z] at ex
      rw [← ex, z]
      exact .inl rfl
    · rw [if_neg z] at ex
      rw [← ex]
      exact .inr ⟨mx, z⟩
  · rename_i a
    rcases List.mem_append.mp h with m | m
    · refine .inr ⟨m, fun z => a ?_⟩
      rw [List.any_eq_true]
      exact ⟨e, m, decide_eq_true z⟩
    · exact .inl (List.mem_singleton.mp m)
theorem putG_keys (l : List (Str × β)) (k : Str) (b : β) : (putG l k b).map (·.1) = if (valG l k).isSome = true then l.map (·.1) else l.map (·.1) ++ [k] := by
  unfold putG
  rw [any_val]
  split
  · rw [List.map_map]
    refine List.map_congr_left fun e _ => ?_
    show (if e.1 = k then (e.1, b) else e).1 = e.1
    split <;> rfl
  · rw [List.map_append]
    rfl
theorem putG_nodup {l : List (Str × β)} {k : Str} {b : β} (h : (l.map (·.1)).Nodup) : ((putG l k b).map (·.1)).Nodup := by
  rw [putG_keys]
  split
  · exact h
  · rename_i z
    rw [List.nodup_append]
    refine ⟨h, by simp, fun a ma c mc => ?_⟩
    rw [List.mem_singleton.mp mc]
    rintro rfl
    obtain ⟨e, me, ee⟩ := List.mem_map.mp ma
    cases w : valG l a with
    | none => exact valG_none w e me ee
    | some _ => rw [w] at z; exact z rfl
theorem valG_of {l : List (Str × β)} {k : Str} {b : β} (nd : (l.map (·.1)).Nodup) (h : (k, b) ∈ l) : valG l k = some b := by
  induction l with
  | nil => cases h
  | cons e l ih =>
    rw [List.map_cons, List.nodup_cons] at nd
    unfold valG
    rw [List.find?_cons]
    rcases List.mem_cons.mp h with z | z
    · rw [← z, decide_eq_true rfl]
      rfl
    · have ne : e.1 ≠ k := fun w => nd.1 (List.mem_map.mpr ⟨_, z, w.symm⟩)
      rw [decide_eq_false ne]
      exact ih nd.2 z
/-- what putG keeps of an addressed table when the address stays -/
theorem putG_kv {vv : β → V} {l : List (Str × β)} {k : Str} {a b : β} (nd : (l.map (·.1)).Nodup) (h : valG l k = some a) (e : vv b = vv a) : kvG vv (putG l k b) = kvG vv l := by
  unfold putG kvG
  rw [any_val, h, if_pos (show (some a).isSome = true from rfl), List.map_map]
  refine List.map_congr_left fun x mx => ?_
  show ((Sum.inr (if x.1 = k then (x.1, b) else x).1 : Key), vv (if x.1 = k then (x.1, b) else x).2) = _
  by_cases z : x.1 = k
  · have z2 : valG l k = some x.2 := valG_of nd (by rw [← z]; exact mx)
    rw [if_pos z, e]
    rw [h] at z2
    rw [Option.some.inj z2]
  · rw [if_neg z]
end
end K1
namespace K1
open PySem PySem.Spec PyProof.Rows L2 Ow Tlz
/-! a State at x -/
theorem k_fr : ¬ (("facts" : Str) = "relations") := by decide +kernel
theorem k_sr : ¬ (("structures" : Str) = "relations") := by decide +kernel
theorem k_sf : ¬ (("structures" : Str) = "facts") := by decide +kernel
theorem k_lr : ¬ (("layouts" : Str) = "relations") := by decide +kernel
theorem k_lf : ¬ (("layouts" : Str) = "facts") := by decide +kernel
theorem k_ls : ¬ (("layouts" : Str) = "structures") := by decide +kernel
/-- the attributes, in the order in which they are stored -/
def flds (dr df ds dl : V) : List (Str × V) := putF "layouts" dl (putF "structures" ds (putF "facts" df (putF "relations" dr [])))
theorem flds_r (dr df ds dl : V) : (flds dr df ds dl).lookup ("relations" : Str) = some dr := by
  unfold flds
  rw [lookup_putF, if_neg (fun z => k_lr z.symm), lookup_putF, if_neg (fun z => k_sr z.symm), lookup_putF, if_neg (fun z => k_fr z.symm), lookup_putF, if_pos rfl]
theorem flds_f (dr df ds dl : V) : (flds dr df ds dl).lookup ("facts" : Str) = some df := by
  unfold flds
  rw [lookup_putF, if_neg (fun z => k_lf z.symm), lookup_putF, if_neg (fun z => k_sf z.symm), lookup_putF, if_pos rfl]
theorem flds_s (dr df ds dl : V) : (flds dr df ds dl).lookup ("structures" : Str) = some ds := by
  unfold flds
  rw [lookup_putF, if_neg (fun z => k_ls z.symm), lookup_putF, if_pos rfl]
theorem flds_l (dr df ds dl : V) : (flds dr df ds dl).lookup ("layouts" : Str) = some dl := by
  unfold flds
  rw [lookup_putF, if_pos rfl]
structure Txt (K : PySem.W.Frag) (mg : Str → Option Value) (C : Addr) : Prop where
  cl : Cls K C
  nR : NoAttr K C "relations"
  nF : NoAttr K C "facts"
  nS : NoAttr K C "structures"
  nL : NoAttr K C "layouts"
  mgC : mg "State" = some (.ref C)
abbrev Tb := List (Str × Addr × List V)
abbrev Fb := List (Str × Addr × List (Addr × List V))
def kvR (R : Tb) : List (Key × V) := kvG (fun b => V.ref b.1) R
def kvF (F : Fb) : List (Key × V) := kvG (fun b => V.ref b.1) F
/-- Z: what the State alone has; b: the most rows of a name -/
structure StAt (K : PySem.W.Frag) (C : Addr) (Z : Addr → Prop) (H : Hp) (x dr df ds dl : Addr) (R : Tb) (F : Fb) (S : Tb) (L : List (Str × V)) (b : Nat) : Prop where
  ob : ∃ dx, H x = some (.ins C dx (flds (.ref dr) (.ref df) (.ref ds) (.ref dl)))
  r : H dr = some (.dK (kvR R))
  rt : ∀ e ∈ R, SqT K H e.2.1 e.2.2
  f : H df = some (.dK (kvF F))
  ft : ∀ e ∈ F, H e.2.1 = some (.lst (rrefs e.2.2)) ∧ RowsOk K H e.2.2 ∧ e.2.2.length ≤ b
  fz : ∀ e ∈ F, Z e.2.1
  fp : F.Pairwise fun a b => a.2.1 ≠ b.2.1
  fn : (F.map (·.1)).Nodup
  s : H ds = some (.dK (kvR S))
  st : ∀ e ∈ S, SqT K H e.2.1 e.2.2
  l : H dl = some (.dK (kvG id L))
  z : Z dr ∧ Z df ∧ Z ds ∧ Z dl ∧ ¬ Z x
  ne : dr ≠ df ∧ dr ≠ ds ∧ dr ≠ dl ∧ df ≠ ds ∧ df ≠ dl ∧ ds ≠ dl
  nw : ∀ a, H a = none → Z a
  ln : R.length ≤ b ∧ F.length ≤ b ∧ S.length ≤ b ∧ L.length ≤ b
/-- all that the State has not alone stays -/
def Kp (Z : Addr → Prop) (H H' : Hp) : Prop := ∀ a o, ¬ Z a → H a = some o → H' a = some o
theorem Kp.refl (Z : Addr → Prop) (H : Hp) : Kp Z H H := fun _ _ _ h => h
theorem Kp.trans {Z : Addr → Prop} {H H1 H2 : Hp} (a : Kp Z H H1) (b : Kp Z H1 H2) : Kp Z H H2 := fun c o z h => b c o z (a c o z h)
theorem Kp.same {Z : Addr → Prop} {H H' : Hp} (s : Same H H') : Kp Z H H' := fun a o _ h => s a o h
theorem Kp.put {Z : Addr → Prop} {H : Hp} {p : Addr} {o : HO} (z : Z p) : Kp Z H (upd H p o) := fun a u nz h => by
  rw [upd_ne (show a ≠ p from fun e => nz (by rw [e]; exact z))]
  exact h
theorem Tk.dK {K : PySem.W.Frag} {H : Hp} {p : Addr} {kvs : List (Key × V)} {o : HO} (e : H p = some (.dK kvs)) : Tk K H (upd H p o) := fun a xs h => by
  rcases h with (h | ⟨u, h⟩) | h
  · exact .inl (.inl (by rw [upd_ne (fun z => by rw [z, e] at h; cases h)]; exact h))
  · exact .inl (.inr ⟨u, by rw [upd_ne (fun z => by rw [z, e] at h; cases h)]; exact h⟩)
  · exact .inr h
section
variable {K : PySem.W.Frag} {C x dr df ds dl : Addr} {Z : Addr → Prop} {H H' : Hp} {R S : Tb} {F : Fb} {L : List (Str × V)} {b : Nat}
theorem StAt.same (h : StAt K C Z H x dr df ds dl R F S L b) (s : Same H H') : StAt K C Z H' x dr df ds dl R F S L b := by
  obtain ⟨⟨dx, ob⟩, r, rt, f, ft, fz, fp, fn, s', st, l, z, ne, nw, ln⟩ := h
  exact ⟨⟨dx, s _ _ ob⟩, s _ _ r, fun e m => Tk.same s _ _ (rt e m), s _ _ f, fun e m => ⟨s _ _ (ft e m).1, (ft e m).2.1.same s, (ft e m).2.2⟩, fz, fp, fn, s _ _ s', fun e m => Tk.same s _ _ (st e m), s _ _ l, z, ne,
    fun a n => nw a (s.free n), ln⟩
theorem StAt.up {c : Nat} (h : StAt K C Z H x dr df ds dl R F S L b) (l : b ≤ c) : StAt K C Z H x dr df ds dl R F S L c := by
  obtain ⟨ob, r, rt, f, ft, fz, fp, fn, s', st, l', z, ne, nw, ln⟩ := h
  exact ⟨ob, r, rt, f, fun e m => ⟨(ft e m).1, (ft e m).2.1, by have := (ft e m).2.2; omega⟩, fz, fp, fn, s', st, l', z, ne, nw, by omega⟩
/-- the list of a name becomes another one -/
theorem StAt.rows {n : Str} {q : Addr} {rs rs' : List (Addr × List V)} (h : StAt K C Z H x dr df ds dl R F S L b) (hq : valG F n = some (q, rs)) (ro : RowsOk K H rs') (lr : rs'.length ≤ b) :
    StAt K C Z (upd H q (.lst (rrefs rs'))) x dr df ds dl R (putG F n (q, rs')) S L b ∧ Kp Z H (upd H q (.lst (rrefs rs'))) ∧ Tk K H (upd H q (.lst (rrefs rs'))) := by
  obtain ⟨⟨dx, ob⟩, r, rt, f, ft, fz, fp, fn, s', st, l, z, ne, nw, ln⟩ := h
  have mq := valG_mem hq
  have hq1 := (ft _ mq).1
  have zq : Z q := fz _ mq
  have hq2 : H q = some (.lst (rrefs rs)) := hq1
  have tk : Tk K H (upd H q (.lst (rrefs rs'))) := Tk.put hq2
  have no : ∀ (a : Addr) (kvs : List (Key × V)), H a = some (.dK kvs) → a ≠ q := fun a kvs e w => by rw [w, hq2] at e; cases e
  have oth : ∀ e ∈ F, e.1 ≠ n → e.2.1 ≠ q := fun e m en w => by
    have := List.pairwise_iff_getElem.mp fp
    obtain ⟨i, hi, ei⟩ := List.mem_iff_getElem.mp m
    obtain ⟨j, hj, ej⟩ := List.mem_iff_getElem.mp mq
    have hij : i ≠ j := fun z => by
      subst z
      rw [ei] at ej
      rw [ej] at en
      exact en rfl
    rcases Nat.lt_or_gt_of_ne hij with c | c
    · exact this i j hi hj c (by rw [ei, ej]; exact w)
    · exact this j i hj hi c (by rw [ei, ej]; exact w.symm)
  refine ⟨⟨⟨dx, by rw [upd_ne (show x ≠ q from fun w => z.2.2.2.2 (by rw [w]; exact zq))]; exact ob⟩, by rw [upd_ne (no _ _ r)]; exact r, fun e m => tk _ _ (rt e m), ?_, fun e m => ?_, fun e m => ?_, ?_, putG_nodup fn,
    by rw [upd_ne (no _ _ s')]; exact s', fun e m => tk _ _ (st e m), by rw [upd_ne (no _ _ l)]; exact l, z, ne, fun a n => nw a ?_, ?_⟩, Kp.put zq, tk⟩
  · rw [upd_ne (no _ _ f), f]
    unfold kvF
    rw [putG_kv (vv := fun b : Addr × List (Addr × List V) => V.ref b.1) (b := (q, rs')) fn hq rfl]
  · rcases putG_mem m with w | ⟨w, en⟩
    · rw [w]
      exact ⟨upd_same, ro.tk tk, lr⟩
    · refine ⟨?_, (ft e w).2.1.tk tk, (ft e w).2.2⟩
      rw [upd_ne (oth e w en)]
      exact (ft e w).1
  · rcases putG_mem m with w | ⟨w, _⟩
    · rw [w]
      exact zq
    · exact fz e w
  · unfold putG
    rw [any_val, hq, if_pos (show (some (q, rs)).isSome = true from rfl), List.pairwise_map]
    refine fp.imp_of_mem fun {a c} ma mc hac => ?_
    have fx : ∀ e ∈ F, (if e.1 = n then (e.1, q, rs') else e).2.1 = e.2.1 := fun e m => by
      by_cases en : e.1 = n
      · rw [if_pos en]
        have e2 := valG_of fn (k := n) (b := e.2) (by rw [← en]; exact m)
        rw [hq] at e2
        show q = e.2.1
        rw [← Option.some.inj e2]
      · rw [if_neg en]
    rw [fx a ma, fx c mc]
    exact hac
  · by_cases w : a = q
    · rw [w, upd_same] at n
      cases n
    · rw [upd_ne w] at n
      exact n
  · refine ⟨ln.1, ?_, ln.2.2⟩
    unfold putG
    rw [any_val, hq, if_pos (show (some (q, rs)).isSome = true from rfl), List.length_map]
    exact ln.2.1
/-- a new name with an empty list -/
theorem StAt.name {n : Str} {q : Addr} (h : StAt K C Z H x dr df ds dl R F S L b) (hn : valG F n = none) (hq : H q = some (.lst [])) (zq : Z q) (nq : ∀ e ∈ F, e.2.1 ≠ q) :
    StAt K C Z (upd H df (.dK (putK (kvF F) (Sum.inr n) (.ref q)))) x dr df ds dl R (F ++ [(n, q, [])]) S L (b + 1) := by
  obtain ⟨⟨dx, ob⟩, r, rt, f, ft, fz, fp, fn, s', st, l, z, ne, nw, ln⟩ := h
  have tk : Tk K H (upd H df (.dK (putK (kvF F) (Sum.inr n) (.ref q)))) := Tk.dK f
  have qd : q ≠ df := fun w => by rw [w, f] at hq; cases hq
  refine ⟨⟨dx, by rw [upd_ne (show x ≠ df from fun w => z.2.2.2.2 (by rw [w]; exact z.2.1))]; exact ob⟩, by rw [upd_ne ne.1]; exact r, fun e m => tk _ _ (rt e m), ?_, fun e m => ?_, fun e m => ?_, ?_, ?_,
    by rw [upd_ne ne.2.2.2.1.symm]; exact s', fun e m => tk _ _ (st e m), by rw [upd_ne ne.2.2.2.2.1.symm]; exact l, z, ne, fun a n => nw a ?_, ?_⟩
  · rw [upd_same]
    have := kvG_put (fun b : Addr × List (Addr × List V) => V.ref b.1) F n (q, [])
    rw [putG_new _ hn] at this
    exact congrArg (fun t => some (HO.dK t)) this
  · rcases List.mem_append.mp m with m | m
    · have n1 : e.2.1 ≠ df := fun w => by
        have := (ft e m).1
        rw [w, f] at this
        cases this
      refine ⟨by rw [upd_ne n1]; exact (ft e m).1, (ft e m).2.1.tk tk, ?_⟩
      have := (ft e m).2.2
      omega
    · rw [List.mem_singleton.mp m]
      exact ⟨by rw [upd_ne qd]; exact hq, (fun _ w => nomatch w), Nat.zero_le _⟩
  · rcases List.mem_append.mp m with m | m
    · exact fz e m
    · rw [List.mem_singleton.mp m]
      exact zq
  · rw [List.pairwise_append]
    refine ⟨fp, List.pairwise_singleton _ _, fun a ma c mc => ?_⟩
    rw [List.mem_singleton.mp mc]
    exact nq a ma
  · rw [List.map_append, List.nodup_append]
    refine ⟨fn, by simp, fun a ma c mc => ?_⟩
    rw [List.mem_singleton.mp mc]
    rintro rfl
    obtain ⟨e, me, ee⟩ := List.mem_map.mp ma
    exact valG_none hn e me ee
  · by_cases w : a = df
    · rw [w, upd_same] at n
      cases n
    · rw [upd_ne w] at n
      exact n
  · rw [List.length_append]
    show _ ∧ F.length + 1 ≤ _ ∧ _
    omega
end
/-- slices of rows are rows -/
theorem cut_rows (rs : List (Addr × List V)) (lo hi : Option Int) : ∃ ts : List (Addr × List V), cutV (rrefs rs) lo hi = rrefs ts ∧ (∀ t ∈ ts, t ∈ rs) ∧ ts = (rs.drop (HT.sIx rs.length 0 lo)).take (HT.sIx rs.length rs.length hi - HT.sIx rs.length 0 lo) := by
  refine ⟨(rs.drop (HT.sIx rs.length 0 lo)).take (HT.sIx rs.length rs.length hi - HT.sIx rs.length 0 lo), ?_, fun t m => List.mem_of_mem_drop (List.mem_of_mem_take m), rfl⟩
  unfold cutV rrefs
  rw [List.map_take, List.map_drop, List.length_map]
end K1
namespace K1
open PySem PySem.Spec PyProof.Rows L2 Ow Tlz
/-! rows as data -/
def scD : V → PyData
  | .int i => .int i
  | .str z => .str z
  | _ => .none
def rowD (xs : List V) : PyData := .tuple (xs.map scD)
def rwsD (rs : List (Addr × List V)) : PyData := .list (rs.map fun t => rowD t.2)
theorem sc_dp {K : PySem.W.Frag} {H : Hp} : ∀ {xs : List V}, (∀ x ∈ xs, Scal x) → DpAll K H xs (xs.map scD)
  | [], _ => .nil
  | x :: xs, h => by
    have h1 := sc_dp (K := K) (H := H) (xs := xs) fun z m => h z (List.mem_cons_of_mem _ m)
    rcases h x List.mem_cons_self with ⟨i, rfl, _⟩ | ⟨z, rfl, _⟩
    · exact .cons (.int i) h1
    · exact .cons (.str z) h1
theorem rws_dp {K : PySem.W.Frag} {H : Hp} : ∀ {rs : List (Addr × List V)}, RowsOk K H rs → DpAll K H (rrefs rs) (rs.map fun t => rowD t.2)
  | [], _ => .nil
  | t :: rs, h => .cons (.tup (h t List.mem_cons_self).1 (sc_dp (h t List.mem_cons_self).2.1)) (rws_dp (rs := rs) fun u m => h u (List.mem_cons_of_mem _ m))
theorem layAll : ∀ {xs : List PyData}, (∀ x ∈ xs, x.canLay0 = true) → PyData.canLayAll0 xs = true
  | [], _ => by simp [PyData.canLayAll0]
  | x :: xs, h => by
    rw [PyData.canLayAll0, h x List.mem_cons_self, layAll fun y m => h y (List.mem_cons_of_mem _ m)]
    rfl
theorem depthAll_le : ∀ {xs : List PyData} {n : Nat}, (∀ x ∈ xs, x.depth ≤ n) → PyData.depthAll xs ≤ n
  | [], n, _ => by simp [PyData.depthAll]
  | x :: xs, n, h => by
    rw [PyData.depthAll]
    exact Nat.max_le.mpr ⟨h x List.mem_cons_self, depthAll_le fun y m => h y (List.mem_cons_of_mem _ m)⟩
theorem sc_lay {v : V} (h : Scal v) : (scD v).canLay0 = true ∧ (scD v).depth = 0 := by
  rcases h with ⟨i, rfl, _⟩ | ⟨z, rfl, p, _⟩
  · simp [scD, PyData.canLay0, PyData.depth]
  · exact ⟨p.ok, by simp [scD, PyData.depth]⟩
theorem row_lay {xs : List V} (h : ∀ x ∈ xs, Scal x) : (rowD xs).canLay0 = true ∧ (rowD xs).depth ≤ 1 := by
  unfold rowD
  rw [PyData.canLay0, PyData.depth]
  refine ⟨layAll fun x mx => ?_, ?_⟩
  · obtain ⟨v, mv, rfl⟩ := List.mem_map.mp mx
    exact (sc_lay (h v mv)).1
  · have : PyData.depthAll (xs.map scD) ≤ 0 := depthAll_le fun x mx => by
      obtain ⟨v, mv, rfl⟩ := List.mem_map.mp mx
      rw [(sc_lay (h v mv)).2]
      exact Nat.le_refl _
    omega
theorem rws_shaped {rs : List (Addr × List V)} (h : ∀ t ∈ rs, ∀ x ∈ t.2, Scal x) : SeqAt.shaped (rwsD rs) = true := by
  unfold SeqAt.shaped rwsD
  rw [PyData.canLay0, PyData.depth]
  have l : PyData.canLayAll0 (rs.map fun t => rowD t.2) = true := layAll fun x mx => by
    obtain ⟨t, mt, rfl⟩ := List.mem_map.mp mx
    exact (row_lay (h t mt)).1
  have e : PyData.depthAll (rs.map fun t => rowD t.2) ≤ 1 := depthAll_le fun x mx => by
    obtain ⟨t, mt, rfl⟩ := List.mem_map.mp mx
    exact (row_lay (h t mt)).2
  rw [l, decide_eq_true (by omega)]
  rfl
theorem row_shaped {xs : List V} (h : ∀ x ∈ xs, Scal x) : SeqAt.shaped (rowD xs) = true := by
  have := row_lay h
  unfold SeqAt.shaped
  rw [this.1, decide_eq_true (by omega)]
  rfl
theorem eqv_sc {x y : V} (sx : Scal x) (sy : Scal y) : PyData.eqv (scD x) (scD y) = decide (x = y) := by
  rcases sx with ⟨i, rfl, _⟩ | ⟨x, rfl, _⟩ <;> rcases sy with ⟨j, rfl, _⟩ | ⟨y, rfl, _⟩
  · simp only [scD, eqv_int]
    by_cases h : i = j
    · subst h; simp
    · rw [decide_eq_false (fun z => h (V.int.inj z))]; simpa using h
  · rw [decide_eq_false (fun z => by cases z)]
    simp only [scD]
    rw [PyData.eqv]
    all_goals (intros; first | contradiction | (rename_i h; cases h))
  · rw [decide_eq_false (fun z => by cases z)]
    simp only [scD]
    rw [PyData.eqv]
    all_goals (intros; first | contradiction | (rename_i h; cases h))
  · simp only [scD, eqv_str]
    by_cases h : x = y
    · subst h; simp
    · rw [decide_eq_false (fun z => h (V.str.inj z))]; simpa using h
theorem eqv_scs : ∀ {xs ys : List V}, (∀ x ∈ xs, Scal x) → (∀ y ∈ ys, Scal y) → PyData.eqvAll (xs.map scD) (ys.map scD) = decide (xs = ys)
  | [], [], _, _ => by rw [List.map_nil, eqv_nil]; rfl
  | [], y :: ys, _, _ => by rw [List.map_nil, List.map_cons, eqv_nc, decide_eq_false (fun z => by cases z)]
  | x :: xs, [], _, _ => by rw [List.map_nil, List.map_cons, eqv_cn, decide_eq_false (fun z => by cases z)]
  | x :: xs, y :: ys, hx, hy => by
    rw [List.map_cons, List.map_cons, eqv_cons, eqv_sc (hx x List.mem_cons_self) (hy y List.mem_cons_self), eqv_scs (fun v m => hx v (List.mem_cons_of_mem _ m)) fun v m => hy v (List.mem_cons_of_mem _ m)]
    by_cases h : x = y
    · subst h
      by_cases g : xs = ys
      · subst g; simp
      · rw [decide_eq_false g, decide_eq_false (fun z => g (List.cons.inj z).2)]; simp
    · rw [decide_eq_false h, decide_eq_false (fun z => h (List.cons.inj z).1)]; rfl
theorem eqv_row {xs ys : List V} (hx : ∀ x ∈ xs, Scal x) (hy : ∀ y ∈ ys, Scal y) : PyData.eqv (rowD xs) (rowD ys) = decide (xs = ys) := by
  unfold rowD
  rw [eqv_tup]
  exact eqv_scs hx hy
theorem eqv_lst (xs ys : List PyData) : PyData.eqv (.list xs) (.list ys) = PyData.eqvAll xs ys := by rw [PyData.eqv]
/-- a fact is put into the table -/
def PutF (F : Fb) (n : Str) (r : Addr) (row : List V) (F' : Fb) : Prop := ∃ (q : Addr) (rs : List (Addr × List V)) (F1 : Fb) (k : Nat),
  ((F1 = F ∧ valG F n = some (q, rs)) ∨ (valG F n = none ∧ rs = [] ∧ F1 = F ++ [(n, q, [])])) ∧ k ≤ rs.length ∧ (Srt rs → Place rs row k) ∧
  ((F' = F1 ∧ ∃ t, rs[k]? = some t ∧ t.2 = row) ∨ (F' = putG F1 n (q, rs.take k ++ [(r, row)] ++ rs.drop k) ∧ ∀ t, rs[k]? = some t → t.2 ≠ row))
def spPutFact (K : PySem.W.Frag) (C : Addr) : Sp := fun vs H Q _ => ∃ (x r : Addr) (n : Str) (row : List V) (dr df ds dl : Addr) (Z : Addr → Prop) (R S : Tb) (F : Fb) (L : List (Str × V)) (b : Nat), vs = [.ref x, .str n, .ref r] ∧
  StAt K C Z H x dr df ds dl R F S L b ∧ b ≤ 900 ∧ SqT K H r row ∧ (∀ v ∈ row, Scal v) ∧ row.length ≤ 10 ∧
  ∀ F' H', PutF F n r row F' → StAt K C Z H' x dr df ds dl R F' S L (b + 1) → Kp Z H H' → Tk K H H' → Q .non H'
abbrev sput_fact : Stmt := topS 6
abbrev Nput_fact : List Str := ["state", "name", "row", "rows", "at"]
theorem scput_fact : FnScope Nput_fact ["state", "name", "row"] (defScope sput_fact) := ⟨rfl, rfl, rfl, by decide +kernel, rfl, by decide +kernel, by decide +kernel⟩
theorem kvF_val (F : Fb) (n : Str) : valV (kvF F) (Sum.inr n) = (valG F n).map fun b => V.ref b.1 := kvG_val _ _ _
section
variable {P : Program} {w : World} {K : PySem.W.Frag} {mg : Str → Option Value} {base : Heap} {C : Addr}
theorem ok_putfact {f : Addr} {fd : FuncData} (F0 : Fun K "put_fact" "put_fact" sput_fact f fd) (T : Bl mg) (X : Txt K mg C)
    (Dplace_of : Kn P w K mg base 3 "place_of" ["rows", "row"] (spPlace K)) :
    FnOk P w K mg base CX0 4 f fd ["state", "name", "row"] (spPutFact K C) := by
  refine F0.ok scput_fact (fun vs H Q E h => ?_) (fun cdv A outer s H vs Q E hr h => ?_)
  · obtain ⟨x, r, n, row, dr, df, ds, dl, Z, R, S, F, L, b, rfl, _⟩ := h
    rfl
  · obtain ⟨x, r, n, row, dr, df, ds, dl, Z, R, S, F, L, b, rfl, st, lb, hrow, srow, lrow, q⟩ := h
    refine ⟨_, (pss_mid (ps_set (i := 3) scput_fact.nd rfl (.inl rfl) (pe_dsetd (pe_fld (pv 0) rfl) (pv 1) (pe_lst pa_nil) ⟨rfl, rfl, rfl, rfl⟩))
      (pss_cons (ps_set (i := 4) scput_fact.nd rfl (.inl rfl) (pe_kn Dplace_of hr (pa_cons (pv 3) (pa_cons (pv 2) pa_nil))))
      (pss_one (ps_if (pt_cmpR (op_neD (hu64 hr)) (pe_slice sl_list (pv 3) (po_some (pv 4)) (po_some (pe_op op_add (pv 4) pe_int))) (pe_lst (pa_cons (pv 2) pa_nil)) (nomark _))
        (pss_one (ps_expr (pe_bm PySem.F.plainAttrs_list PySem.F.slot_list_insert PySem.F.type_list_insert mt_insert (pv 3) (pa_cons (pv 4) (pa_cons (pv 2) pa_nil))))) pss_nil)))), ?_⟩
    refine ⟨fun σ H1 => ∃ (l : Addr) (rs : List (Addr × List V)) (F1 : Fb), σ = [some (.ref x), some (.str n), some (.ref r), some (.ref l), none] ∧ StAt K C Z H1 x dr df ds dl R F1 S L (b + 1) ∧ valG F1 n = some (l, rs) ∧
        ((F1 = F ∧ valG F n = some (l, rs)) ∨ (valG F n = none ∧ rs = [] ∧ F1 = F ++ [(n, l, [])])) ∧ rs.length ≤ b ∧ Kp Z H H1 ∧ Tk K H H1, ?_, ?_⟩
    · obtain ⟨dx, ob⟩ := st.ob
      refine ⟨_, rfl, x, C, dx, _, _, rfl, ob, X.cl, X.nF, flds_f _ _ _ _, df, rfl, .inl ⟨_, .inl st.f⟩, _, rfl, sz 0, fun o no => ?_⟩
      have s1 := Same.new (o := .lst []) no
      have st1 := st.same s1
      have zo := st.nw o no
      refine ⟨kvF F, Sum.inr n, st1.f, rfl, ?_, fun v hv => ?_, fun hv => ?_⟩
      · unfold kvF kvG
        rw [List.length_map]
        exact small (m := 1000) (by have := st.ln; omega) (by decide)
      · rw [kvF_val] at hv
        cases e : valG F n with
        | none => rw [e] at hv; cases hv
        | some a =>
          rw [e] at hv
          have ev : V.ref a.1 = v := Option.some.inj hv
          subst ev
          have m := valG_mem e
          exact ⟨a.1, a.2, F, rfl, st1.up (by omega), e, .inl ⟨rfl, rfl⟩, (st.ft _ m).2.2, Kp.same s1, Tk.same s1⟩
      · rw [kvF_val] at hv
        have e : valG F n = none := by
          cases e : valG F n with
          | none => rfl
          | some a => rw [e] at hv; cases hv
        have nq : ∀ e ∈ F, e.2.1 ≠ o := fun e m w => by
          have := (st.ft e m).1
          rw [w, no] at this
          cases this
        refine ⟨o, [], F ++ [(n, o, [])], rfl, st1.name e upd_same zo nq, ?_, .inr ⟨e, rfl, rfl⟩, Nat.zero_le _, (Kp.same s1).trans (Kp.put st.z.2.1), (Tk.same s1).trans (Tk.dK st1.f)⟩
        refine valG_of ?_ (List.mem_append_right _ (List.mem_singleton.mpr rfl))
        exact (st1.name e upd_same zo nq).fn
    · rintro σ H1 ⟨l, rs, F1, rfl, st1, ev, how, lrs, kp1, tk1⟩
      have m1 := valG_mem ev
      obtain ⟨hl, ro, _⟩ := st1.ft _ m1
      have hl' : H1 l = some (.lst (rrefs rs)) := hl
      have ro' : RowsOk K H1 rs := ro
      have hrow1 := tk1 _ _ hrow
      refine ⟨_, rfl, _, rfl, l, r, rs, row, rfl, SqL.of hl', ro', hrow1, srow, lrow, by omega, fun k H2 lk pl s2 => ?_⟩
      have st2 := st1.same s2
      have hl2 := s2 _ _ hl'
      obtain ⟨ts, ec, mts, ets⟩ := cut_rows rs (some (k : Int)) (some ((k : Int) + 1))
      have i1 : HT.sIx rs.length 0 (some (k : Int)) = k := by rw [HT.sIx_nat]; omega
      have i2 : HT.sIx rs.length rs.length (some ((k : Int) + 1)) = min (k + 1) rs.length := by
        have := HT.sIx_nat rs.length rs.length (k + 1)
        rw [← this]
        rfl
      have one : ts = (rs[k]?).toList := by
        rw [ets, i1, i2]
        by_cases hk : k < rs.length
        · rw [List.getElem?_eq_getElem hk, List.drop_eq_getElem_cons hk]
          have : min (k + 1) rs.length - k = 1 := by omega
          rw [this]
          rfl
        · rw [List.getElem?_eq_none (by omega), List.drop_of_length_le (by omega), List.take_nil]
          rfl
      refine ⟨_, rfl, _, rfl, (k : Int), rfl, _, rfl, (k : Int), 1, rfl, rfl, (k : Int) + 1, rfl, l, rrefs rs, rfl, SqL.of hl2, fun p np => ?_⟩
      rw [ec]
      have s3 := Same.new (o := .lst (rrefs ts)) np
      have e3 := upd_same (H := H2) (a := p) (o := .lst (rrefs ts))
      generalize (upd H2 p (.lst (rrefs ts))) = H3 at *
      refine ⟨_, rfl, sz 1, fun u nu => ?_⟩
      have s4 := Same.new (o := .lst [V.ref r]) nu
      have e4 := upd_same (H := H3) (a := u) (o := .lst [V.ref r])
      generalize (upd H3 u (.lst [V.ref r])) = H4 at *
      have s24 := s3.trans s4
      have st4 := st2.same s24
      have hl4 := s24 _ _ hl2
      have ro4 := (ro'.same s2).same s24
      have hrow4 := Tk.same (s2.trans s24) _ _ hrow1
      have rts : RowsOk K H4 ts := fun t m => ro4 t (mts t m)
      have kp4 : Kp Z H H4 := kp1.trans (Kp.same (s2.trans s24))
      have tk4 : Tk K H H4 := tk1.trans (Tk.same (s2.trans s24))
      refine ⟨rwsD ts, .list [rowD row], .lst (SqL.of (s4 _ _ e3)) (rws_dp rts), .lst (SqL.of e4) (.cons (.tup hrow4 (sc_dp srow)) .nil), rws_shaped fun t m => (rts t m).2.1, ?_, _, rfl, ?_⟩
      · exact rws_shaped (rs := [(r, row)]) fun t m => by
          rw [List.mem_singleton.mp m]
          exact srow
      have eq1 : PyData.eqv (rwsD ts) (.list [rowD row]) = decide (∃ t, rs[k]? = some t ∧ t.2 = row) := by
        unfold rwsD
        rw [one, eqv_lst]
        cases e : rs[k]? with
        | none =>
          rw [decide_eq_false (fun ⟨t, h, _⟩ => by cases h)]
          show PyData.eqvAll [] _ = _
          rw [eqv_nc]
        | some t =>
          have mt := List.mem_of_getElem? e
          show PyData.eqvAll [rowD t.2] [rowD row] = _
          rw [eqv_cons, eqv_nil, Bool.and_true, eqv_row (ro' t mt).2.1 srow]
          refine decide_eq_decide.mpr ⟨fun h => ⟨t, rfl, h⟩, fun ⟨u, hu, h⟩ => ?_⟩
          rw [Option.some.inj hu]
          exact h
      rw [eq1]
      refine ite2 (fun e => ?_) (fun e => ?_)
      · have no1 : ∀ t, rs[k]? = some t → t.2 ≠ row := fun t ht hr => by
          rw [decide_eq_true ⟨t, ht, hr⟩] at e
          cases e
        have hr3 := st4.rows (rs' := rs.take k ++ [(r, row)] ++ rs.drop k) ev (fun t m => by
          rcases List.mem_append.mp m with m | m
          · rcases List.mem_append.mp m with m | m
            · exact ro4 t (List.mem_of_mem_take m)
            · rw [List.mem_singleton.mp m]
              exact ⟨hrow4, srow, lrow⟩
          · exact ro4 t (List.mem_of_mem_drop m)) (by
            rw [List.length_append, List.length_append, List.length_take, List.length_drop]
            show min k rs.length + 1 + (rs.length - k) ≤ b + 1
            omega)
        have er : (rrefs rs).take (k : Int).toNat ++ [V.ref r] ++ (rrefs rs).drop (k : Int).toNat = rrefs (rs.take k ++ [(r, row)] ++ rs.drop k) := by
          unfold rrefs
          rw [List.map_append, List.map_append, List.map_take, List.map_drop]
          rfl
        refine ⟨_, rfl, .inl ⟨rfl, _, .inl (.inl hl4)⟩, _, rfl, _, rfl, l, rrefs rs, (k : Int), .ref r, rfl, rfl, hl4, ?_, by omega, by omega, ?_⟩
        · rw [rrefs_len]
          exact small (m := 1000) (by omega) (by decide)
        · rw [er]
          exact q _ _ ⟨l, rs, F1, k, how, lk, pl, .inr ⟨rfl, no1⟩⟩ hr3.1 (kp4.trans hr3.2.1) (tk4.trans hr3.2.2)
      · have yes : ∃ t, rs[k]? = some t ∧ t.2 = row := by
          by_cases z : ∃ t, rs[k]? = some t ∧ t.2 = row
          · exact z
          · rw [decide_eq_false z] at e
            exact absurd rfl e
        exact q _ _ ⟨l, rs, F1, k, how, lk, pl, .inl ⟨rfl, yes⟩⟩ st4 kp4 tk4
end
end K1
namespace K1
open PySem PySem.Spec PyProof.Rows L2 Ow Tlz
/-! items -/
inductive It where
  | rel (n : Str) (c : List V)
  | fact (n : Str) (r : Addr) (row : List V)
  | str (n : Str) (c : List V)
  | lay (n : Str) (v : V)
def ItAt (K : PySem.W.Frag) (H : Hp) (a : Addr) : It → Prop
  | .rel n c => SqT K H a (.str "relation" :: .str n :: c)
  | .fact n r row => SqT K H a [.str "fact", .str n, .ref r] ∧ SqT K H r row ∧ (∀ v ∈ row, Scal v) ∧ row.length ≤ 10
  | .str n c => SqT K H a (.str "structure" :: .str n :: c)
  | .lay n v => SqT K H a [.str "layout", .str n, v]
theorem ItAt.tk {K : PySem.W.Frag} {H H' : Hp} {a : Addr} {i : It} (t : Tk K H H') (h : ItAt K H a i) : ItAt K H' a i := by
  cases i with
  | rel n c => exact t _ _ h
  | fact n r row => exact ⟨t _ _ h.1, t _ _ h.2.1, h.2.2⟩
  | str n c => exact t _ _ h
  | lay n v => exact t _ _ h
/-- an item is put into the tables -/
def PutI (R : Tb) (F : Fb) (S : Tb) (L : List (Str × V)) (i : It) (R' : Tb) (F' : Fb) (S' : Tb) (L' : List (Str × V)) : Prop := match i with
  | .rel n c => (∃ q, R' = putG R n (q, c)) ∧ (((valG F n).isSome = true ∧ F' = F) ∨ ∃ q, valG F n = none ∧ F' = F ++ [(n, q, [])]) ∧ S' = S ∧ L' = L
  | .fact n r row => PutF F n r row F' ∧ R' = R ∧ S' = S ∧ L' = L
  | .str n c => (∃ q, S' = putG S n (q, c)) ∧ R' = R ∧ F' = F ∧ L' = L
  | .lay n v => L' = putG L n v ∧ R' = R ∧ F' = F ∧ S' = S
def spPutItem (K : PySem.W.Frag) (C : Addr) : Sp := fun vs H Q _ => ∃ (x a : Addr) (i : It) (dr df ds dl : Addr) (Z : Addr → Prop) (R S : Tb) (F : Fb) (L : List (Str × V)) (b : Nat), vs = [.ref x, .ref a] ∧
  StAt K C Z H x dr df ds dl R F S L b ∧ b ≤ 900 ∧ ItAt K H a i ∧
  ∀ R' F' S' L' H', PutI R F S L i R' F' S' L' → StAt K C Z H' x dr df ds dl R' F' S' L' (b + 1) → Kp Z H H' → Tk K H H' → Q .non H'
abbrev sput_item : Stmt := topS 7
abbrev Nput_item : List Str := ["state", "item", "word", "name"]
theorem scput_item : FnScope Nput_item ["state", "item"] (defScope sput_item) := ⟨rfl, rfl, rfl, by decide +kernel, rfl, by decide +kernel, by decide +kernel⟩
section
variable {K : PySem.W.Frag} {C x dr df ds dl : Addr} {Z : Addr → Prop} {H H' : Hp} {R S : Tb} {F : Fb} {L : List (Str × V)} {b : Nat}
theorem none_upd {d : Addr} {o : HO} (nw : ∀ a, H a = none → Z a) : ∀ a, (upd H d o) a = none → Z a := fun a n => by
  by_cases w : a = d
  · rw [w, upd_same] at n
    cases n
  · rw [upd_ne w] at n
    exact nw a n
theorem StAt.rel {n : Str} {q : Addr} {c : List V} (h : StAt K C Z H x dr df ds dl R F S L b) (hq : SqT K H q c) :
    StAt K C Z (upd H dr (.dK (putK (kvR R) (Sum.inr n) (.ref q)))) x dr df ds dl (putG R n (q, c)) F S L (b + 1) := by
  obtain ⟨⟨dx, ob⟩, r, rt, f, ft, fz, fp, fn, s', st, l, z, ne, nw, ln⟩ := h
  have tk : Tk K H (upd H dr (.dK (putK (kvR R) (Sum.inr n) (.ref q)))) := Tk.dK r
  refine ⟨⟨dx, by rw [upd_ne (show x ≠ dr from fun w => z.2.2.2.2 (by rw [w]; exact z.1))]; exact ob⟩, ?_, fun e m => ?_, by rw [upd_ne ne.1.symm]; exact f, fun e m => ?_, fz, fp, fn, by rw [upd_ne ne.2.1.symm]; exact s', fun e m => tk _ _ (st e m),
    by rw [upd_ne ne.2.2.1.symm]; exact l, z, ne, none_upd nw, ?_⟩
  · rw [upd_same]
    have := kvG_put (fun b : Addr × List V => V.ref b.1) R n (q, c)
    exact congrArg (fun t => some (HO.dK t)) this
  · rcases putG_mem m with w | ⟨w, _⟩
    · rw [w]; exact tk _ _ hq
    · exact tk _ _ (rt e w)
  · have n1 : e.2.1 ≠ dr := fun w => by
      have := (ft e m).1
      rw [w, r] at this
      cases this
    exact ⟨by rw [upd_ne n1]; exact (ft e m).1, (ft e m).2.1.tk tk, by have := (ft e m).2.2; omega⟩
  · have := putG_len R n (q, c)
    omega
theorem StAt.stru {n : Str} {q : Addr} {c : List V} (h : StAt K C Z H x dr df ds dl R F S L b) (hq : SqT K H q c) :
    StAt K C Z (upd H ds (.dK (putK (kvR S) (Sum.inr n) (.ref q)))) x dr df ds dl R F (putG S n (q, c)) L (b + 1) := by
  obtain ⟨⟨dx, ob⟩, r, rt, f, ft, fz, fp, fn, s', st, l, z, ne, nw, ln⟩ := h
  have tk : Tk K H (upd H ds (.dK (putK (kvR S) (Sum.inr n) (.ref q)))) := Tk.dK s'
  refine ⟨⟨dx, by rw [upd_ne (show x ≠ ds from fun w => z.2.2.2.2 (by rw [w]; exact z.2.2.1))]; exact ob⟩, by rw [upd_ne ne.2.1]; exact r, fun e m => tk _ _ (rt e m), by rw [upd_ne ne.2.2.2.1]; exact f, fun e m => ?_, fz, fp, fn, ?_, fun e m => ?_,
    by rw [upd_ne ne.2.2.2.2.2.symm]; exact l, z, ne, none_upd nw, ?_⟩
  · have n1 : e.2.1 ≠ ds := fun w => by
      have := (ft e m).1
      rw [w, s'] at this
      cases this
    exact ⟨by rw [upd_ne n1]; exact (ft e m).1, (ft e m).2.1.tk tk, by have := (ft e m).2.2; omega⟩
  · rw [upd_same]
    have := kvG_put (fun b : Addr × List V => V.ref b.1) S n (q, c)
    exact congrArg (fun t => some (HO.dK t)) this
  · rcases putG_mem m with w | ⟨w, _⟩
    · rw [w]; exact tk _ _ hq
    · exact tk _ _ (st e w)
  · have := putG_len S n (q, c)
    omega
theorem StAt.lay {n : Str} {v : V} (h : StAt K C Z H x dr df ds dl R F S L b) :
    StAt K C Z (upd H dl (.dK (putK (kvG id L) (Sum.inr n) v))) x dr df ds dl R F S (putG L n v) (b + 1) := by
  obtain ⟨⟨dx, ob⟩, r, rt, f, ft, fz, fp, fn, s', st, l, z, ne, nw, ln⟩ := h
  have tk : Tk K H (upd H dl (.dK (putK (kvG id L) (Sum.inr n) v))) := Tk.dK l
  refine ⟨⟨dx, by rw [upd_ne (show x ≠ dl from fun w => z.2.2.2.2 (by rw [w]; exact z.2.2.2.1))]; exact ob⟩, by rw [upd_ne ne.2.2.1]; exact r, fun e m => tk _ _ (rt e m), by rw [upd_ne ne.2.2.2.2.1]; exact f, fun e m => ?_, fz, fp, fn,
    by rw [upd_ne ne.2.2.2.2.2]; exact s', fun e m => tk _ _ (st e m), ?_, z, ne, none_upd nw, ?_⟩
  · have n1 : e.2.1 ≠ dl := fun w => by
      have := (ft e m).1
      rw [w, l] at this
      cases this
    exact ⟨by rw [upd_ne n1]; exact (ft e m).1, (ft e m).2.1.tk tk, by have := (ft e m).2.2; omega⟩
  · rw [upd_same]
    exact congrArg (fun t => some (HO.dK t)) (kvG_put id L n v)
  · have := putG_len L n v
    omega
end
theorem kvG_len {β : Type} (vv : β → V) (l : List (Str × β)) : (kvG vv l).length = l.length := by unfold kvG; rw [List.length_map]
theorem cut2 (u v : V) (c : List V) : cutV (u :: v :: c) (some 2) none = c ∧ ¬ (HT.sIx (u :: v :: c).length 0 (some 2) = 0 ∧ HT.sIx (u :: v :: c).length (u :: v :: c).length none = (u :: v :: c).length) := by
  have i1 : HT.sIx (u :: v :: c).length 0 (some 2) = 2 := by
    have := HT.sIx_nat (u :: v :: c).length 0 2
    rw [show ((2 : Nat) : Int) = 2 from rfl] at this
    rw [this, List.length_cons, List.length_cons]
    omega
  refine ⟨?_, fun z => by rw [i1] at z; omega⟩
  unfold cutV
  rw [i1, HT.sIx_none]
  show c.take ((c.length + 1 + 1) - 2) = c
  exact List.take_of_length_le (by omega)
section
variable {P : Program} {w : World} {K : PySem.W.Frag} {mg : Str → Option Value} {base : Heap} {C : Addr}
theorem ok_putitem {f : Addr} {fd : FuncData} (F0 : Fun K "put_item" "put_item" sput_item f fd) (T : Bl mg) (X : Txt K mg C)
    (Dput_fact : Kn P w K mg base 4 "put_fact" ["state", "name", "row"] (spPutFact K C)) :
    FnOk P w K mg base CX0 5 f fd ["state", "item"] (spPutItem K C) := by
  refine F0.ok scput_item (fun vs H Q E h => ?_) (fun cdv A outer s H vs Q E hr h => ?_)
  · obtain ⟨x, a, i, dr, df, ds, dl, Z, R, S, F, L, b, rfl, _⟩ := h
    rfl
  · obtain ⟨x, a, i, dr, df, ds, dl, Z, R, S, F, L, b, rfl, st, lb, hi, q⟩ := h
    have hu := hu_of hr
    refine ⟨_, (pss_cons (ps_set (i := 2) scput_item.nd rfl (.inl rfl) (pe_ix ix_tup (pv 1) pe_int (fun _ _ => rfl)))
      (pss_cons (ps_set (i := 3) scput_item.nd rfl (.inl rfl) (pe_ix ix_tup (pv 1) pe_int (fun _ _ => rfl)))
      (pss_one (ps_if (pt_cmpR op_eq (pv 2) pe_str (nomark _)) (pss_cons (ps_dput hu (pe_fld (pv 0) rfl) (pv 3) (pe_slice sl_tupA (pv 1) (po_some pe_int) po_none) rfl)
      (pss_one (ps_expr (pe_dsetd (pe_fld (pv 0) rfl) (pv 3) (pe_lst pa_nil) ⟨rfl, rfl, rfl, rfl⟩)))) (pss_one (ps_if (pt_cmpR op_eq (pv 2) pe_str (nomark _)) (pss_one (ps_expr (pe_kn Dput_fact hr (pa_cons (pv 0) (pa_cons (pv 3) (pa_cons (pe_ix ix_tup (pv 1) pe_int (fun _ _ => rfl)) pa_nil)))))) (pss_one (ps_if (pt_cmpR op_eq (pv 2) pe_str (nomark _)) (pss_one (ps_dput hu (pe_fld (pv 0) rfl) (pv 3) (pe_slice sl_tupA (pv 1) (po_some pe_int) po_none) rfl)) (pss_one (ps_dput hu (pe_fld (pv 0) rfl) (pv 3) (pe_ix ix_tup (pv 1) pe_int (fun _ _ => rfl)) rfl)))))))))), ?_⟩
    have big : ∀ {β : Type} (vv : β → V) (l : List (Str × β)), l.length ≤ b → (kvG vv l).length < sizeLine := fun vv l hl => by
      rw [kvG_len]
      exact small (m := 1000) (by omega) (by decide)
    have n1 : ∀ {u v : Str}, u ≠ v → ¬ decide (V.str u = V.str v) = true := fun h e => h (V.str.inj (of_decide_eq_true e))
    cases i with
    | rel n c =>
      have ht : SqT K H a (.str "relation" :: .str n :: c) := hi
      obtain ⟨dx, ob⟩ := st.ob
      refine ⟨_, rfl, a, _, 0, _, rfl, rfl, ht, at_of (j := 0) rfl rfl, _, rfl, a, _, 1, _, rfl, rfl, ht, at_of (j := 1) rfl rfl, ?_⟩
      refine ⟨_, rfl, rfl, _, rfl, ite2 (fun _ => ?_) (fun e => absurd (decide_eq_true rfl) e)⟩
      refine ⟨_, rfl, 2, rfl, a, _, rfl, ht, fun w => absurd w (cut2 _ _ c).2, fun _ p np => ?_⟩
      rw [(cut2 _ _ c).1]
      have s1 := Same.new (o := .tup c) np
      have e1 := upd_same (H := H) (a := p) (o := .tup c)
      generalize (upd H p (.tup c)) = H1 at *
      have st1 := st.same s1
      have st2 := st1.rel (n := n) (SqT.of e1)
      have k1 : Kp Z H1 (upd H1 dr (.dK (putK (kvR R) (Sum.inr n) (.ref p)))) := Kp.put st.z.1
      have t1 : Tk K H1 (upd H1 dr (.dK (putK (kvR R) (Sum.inr n) (.ref p)))) := Tk.dK st1.r
      have dp := DPut.k (k := Sum.inr n) (v := .ref p) st1.r (big _ R st.ln.1)
      refine ⟨_, rfl, x, C, dx, _, _, rfl, s1 _ _ ob, X.cl, X.nR, flds_r _ _ _ _, _, rfl, dr, _, rfl, dp, ?_⟩
      have k2 : Kp Z H _ := (Kp.same s1).trans k1
      have t2 : Tk K H _ := (Tk.same s1).trans t1
      generalize (upd H1 dr (.dK (putK (kvR R) (Sum.inr n) (.ref p)))) = H2 at *
      obtain ⟨dx2, ob2⟩ := st2.ob
      refine ⟨_, rfl, x, C, dx2, _, _, rfl, ob2, X.cl, X.nF, flds_f _ _ _ _, df, rfl, .inl ⟨_, .inl st2.f⟩, _, rfl, sz 0, fun o no => ?_⟩
      have s3 := Same.new (o := .lst []) no
      have st3 := st2.same s3
      have zo := st2.nw o no
      have rr : PutI R F S L (.rel n c) (putG R n (p, c)) F S L ∨ valG F n = none := by
        cases e : valG F n with
        | none => exact .inr rfl
        | some v => exact .inl ⟨⟨p, rfl⟩, .inl ⟨by rw [e]; rfl, rfl⟩, rfl, rfl⟩
      refine ⟨kvF F, Sum.inr n, st3.f, rfl, big _ F st.ln.2.1, fun v hv => ?_, fun hv => ?_⟩
      · rcases rr with rr | rr
        · exact q _ _ _ _ _ rr st3 (k2.trans (Kp.same s3)) (t2.trans (Tk.same s3))
        · rw [kvF_val, rr] at hv
          cases hv
      · rw [kvF_val] at hv
        have e : valG F n = none := by
          cases e : valG F n with
          | none => rfl
          | some a => rw [e] at hv; cases hv
        have nq : ∀ e ∈ F, e.2.1 ≠ o := fun e m w => by
          have := (st2.ft e m).1
          rw [w, no] at this
          cases this
        have st4 := st3.name e upd_same zo nq
        obtain ⟨ob, r, rt, f, ft, fz, fp, fn, s', st', l', z, ne, nw, ln⟩ := st4
        have l2 : (putG R n (p, c)).length ≤ b + 1 := by have := putG_len R n (p, c); have := st.ln; omega
        have l3 : (F ++ [(n, o, ([] : List (Addr × List V)))]).length ≤ b + 1 := by rw [List.length_append]; have := st.ln; show F.length + 1 ≤ _; omega
        have l4 := st.ln
        refine q _ _ _ _ _ ⟨⟨p, rfl⟩, .inr ⟨o, e, rfl⟩, rfl, rfl⟩ ⟨ob, r, rt, f, fun u m => ⟨(ft u m).1, (ft u m).2.1, ?_⟩, fz, fp, fn, s', st', l', z, ne, nw, l2, l3, by omega, by omega⟩
          ((k2.trans (Kp.same s3)).trans (Kp.put st.z.2.1)) ((t2.trans (Tk.same s3)).trans (Tk.dK st3.f))
        rcases List.mem_append.mp m with m | m
        · have := (st.ft u m).2.2
          omega
        · rw [List.mem_singleton.mp m]
          exact Nat.zero_le _
    | fact n r row =>
      obtain ⟨ht, hrow, srow, lrow⟩ := hi
      refine ⟨_, rfl, a, _, 0, _, rfl, rfl, ht, at_of (j := 0) rfl rfl, _, rfl, a, _, 1, _, rfl, rfl, ht, at_of (j := 1) rfl rfl, ?_⟩
      refine ⟨_, rfl, rfl, _, rfl, ite2 (fun e => absurd e (n1 (by decide +kernel))) (fun _ => ?_)⟩
      refine ⟨_, rfl, rfl, _, rfl, ite2 (fun _ => ?_) (fun e => absurd (decide_eq_true rfl) e)⟩
      refine ⟨_, rfl, _, rfl, _, rfl, a, _, 2, _, rfl, rfl, ht, at_of (j := 2) rfl rfl, x, r, n, row, dr, df, ds, dl, Z, R, S, F, L, b, rfl, st, lb, hrow, srow, lrow, fun F' H' pf st' kp tk => ?_⟩
      exact q _ _ _ _ _ ⟨pf, rfl, rfl, rfl⟩ st' kp tk
    | str n c =>
      have ht : SqT K H a (.str "structure" :: .str n :: c) := hi
      obtain ⟨dx, ob⟩ := st.ob
      refine ⟨_, rfl, a, _, 0, _, rfl, rfl, ht, at_of (j := 0) rfl rfl, _, rfl, a, _, 1, _, rfl, rfl, ht, at_of (j := 1) rfl rfl, ?_⟩
      refine ⟨_, rfl, rfl, _, rfl, ite2 (fun e => absurd e (n1 (by decide +kernel))) (fun _ => ?_)⟩
      refine ⟨_, rfl, rfl, _, rfl, ite2 (fun e => absurd e (n1 (by decide +kernel))) (fun _ => ?_)⟩
      refine ⟨_, rfl, rfl, _, rfl, ite2 (fun _ => ?_) (fun e => absurd (decide_eq_true rfl) e)⟩
      refine ⟨_, rfl, 2, rfl, a, _, rfl, ht, fun w => absurd w (cut2 _ _ c).2, fun _ p np => ?_⟩
      rw [(cut2 _ _ c).1]
      have s1 := Same.new (o := .tup c) np
      have e1 := upd_same (H := H) (a := p) (o := .tup c)
      generalize (upd H p (.tup c)) = H1 at *
      have st1 := st.same s1
      have st2 := st1.stru (n := n) (SqT.of e1)
      have dp := DPut.k (k := Sum.inr n) (v := .ref p) st1.s (big _ S st.ln.2.2.1)
      refine ⟨_, rfl, x, C, dx, _, _, rfl, s1 _ _ ob, X.cl, X.nS, flds_s _ _ _ _, _, rfl, ds, _, rfl, dp, ?_⟩
      exact q _ _ _ _ _ ⟨⟨p, rfl⟩, rfl, rfl, rfl⟩ st2 ((Kp.same s1).trans (Kp.put st.z.2.2.1)) ((Tk.same s1).trans (Tk.dK st1.s))
    | lay n v =>
      have ht : SqT K H a [.str "layout", .str n, v] := hi
      obtain ⟨dx, ob⟩ := st.ob
      refine ⟨_, rfl, a, _, 0, _, rfl, rfl, ht, at_of (j := 0) rfl rfl, _, rfl, a, _, 1, _, rfl, rfl, ht, at_of (j := 1) rfl rfl, ?_⟩
      refine ⟨_, rfl, rfl, _, rfl, ite2 (fun e => absurd e (n1 (by decide +kernel))) (fun _ => ?_)⟩
      refine ⟨_, rfl, rfl, _, rfl, ite2 (fun e => absurd e (n1 (by decide +kernel))) (fun _ => ?_)⟩
      refine ⟨_, rfl, rfl, _, rfl, ite2 (fun e => absurd e (n1 (by decide +kernel))) (fun _ => ?_)⟩
      have dp := DPut.k (k := Sum.inr n) (v := v) st.l (big _ L st.ln.2.2.2)
      refine ⟨_, rfl, a, _, 2, _, rfl, rfl, ht, at_of (j := 2) rfl rfl, _, rfl, x, C, dx, _, _, rfl, ob, X.cl, X.nL, flds_l _ _ _ _, _, rfl, dl, _, rfl, dp, ?_⟩
      exact q _ _ _ _ _ ⟨rfl, rfl, rfl, rfl⟩ st.lay (Kp.put st.z.2.2.2.1) (Tk.dK st.l)
end
end K1
namespace K1
open PySem PySem.Spec PyProof.Rows L2 Ow Tlz
theorem SqL.gw {K : PySem.W.Frag} {H H' : Hp} {x a C dx : Addr} {fs : List (Str × V)} {xs : List V} (e : H x = some (.ins C dx fs)) (g : Gw x H H') (h : SqL K H a xs) : SqL K H' a xs := by
  rcases h with (h | ⟨o, h⟩) | h
  · exact .inl (.inl (g _ _ (fun z => by rw [z, e] at h; cases h) h))
  · exact .inl (.inr ⟨o, g _ _ (fun z => by rw [z, e] at h; cases h) h⟩)
  · exact .inr h
theorem Tk.gwi {K : PySem.W.Frag} {H H' : Hp} {x C dx : Addr} {fs : List (Str × V)} (e : H x = some (.ins C dx fs)) (g : Gw x H H') : Tk K H H' := fun a xs h => by
  rcases h with (h | ⟨o, h⟩) | h
  · exact .inl (.inl (g _ _ (fun z => by rw [z, e] at h; cases h) h))
  · exact .inl (.inr ⟨o, g _ _ (fun z => by rw [z, e] at h; cases h) h⟩)
  · exact .inr h
/-- the tables behind some items, put one after another -/
inductive Puts : List It → Tb → Fb → Tb → List (Str × V) → Prop
  | nil : Puts [] [] [] [] []
  | snoc {is : List It} {i : It} {R S R' S' : Tb} {F F' : Fb} {L L' : List (Str × V)} : Puts is R F S L → PutI R F S L i R' F' S' L' → Puts (is ++ [i]) R' F' S' L'
theorem putF_len (f : Str) (v : V) : ∀ fs : List (Str × V), (putF f v fs).length ≤ fs.length + 1
  | [] => Nat.le_refl _
  | (g, x) :: r => by
    rw [putF]
    split
    · exact Nat.le_succ _
    · exact Nat.succ_le_succ (putF_len f v r)
def spInit (K : PySem.W.Frag) (C : Addr) : Sp := fun vs H Q _ => ∃ (x a dx : Addr) (its : List (Addr × It)), vs = [.ref x, .ref a] ∧ H x = some (.ins C dx []) ∧ SqL K H a (its.map fun t => .ref t.1) ∧ (∀ t ∈ its, ItAt K H t.1 t.2) ∧ its.length ≤ 300 ∧
  ∀ (dr df ds dl : Addr) (R S : Tb) (F : Fb) (L : List (Str × V)) H', StAt K C (fun b => H b = none) H' x dr df ds dl R F S L 300 → Puts (its.map (·.2)) R F S L → Gw x H H' → Q .non H'
def spInit0 (K : PySem.W.Frag) (C : Addr) : Sp := fun vs H Q _ => ∃ (x a dx : Addr), vs = [.ref x, .ref a] ∧ H x = some (.ins C dx []) ∧ SqT K H a [] ∧
  ∀ (dr df ds dl : Addr) H', StAt K C (fun b => H b = none) H' x dr df ds dl [] [] [] [] 300 → Gw x H H' → Q .non H'
abbrev sState : Stmt := topS 8
abbrev sInit : Stmt := inClass sState 0
abbrev NInit : List Str := ["self", "items", "item"]
theorem scInit : FnScope NInit ["self", "items"] (defScope sInit) := ⟨rfl, rfl, rfl, by decide +kernel, rfl, by decide +kernel, by decide +kernel⟩
/-- the four fields of a new State -/
structure New (C : Addr) (H H' : Hp) (x d1 d2 d3 d4 : Addr) : Prop where
  ob : ∃ dx, H' x = some (.ins C dx (flds (.ref d1) (.ref d2) (.ref d3) (.ref d4)))
  e1 : H' d1 = some (.dK [])
  e2 : H' d2 = some (.dK [])
  e3 : H' d3 = some (.dK [])
  e4 : H' d4 = some (.dK [])
  n1 : H d1 = none
  n2 : H d2 = none
  n3 : H d3 = none
  n4 : H d4 = none
  ne : d1 ≠ d2 ∧ d1 ≠ d3 ∧ d1 ≠ d4 ∧ d2 ≠ d3 ∧ d2 ≠ d4 ∧ d3 ≠ d4
  gw : Gw x H H'
theorem New.st {K : PySem.W.Frag} {C : Addr} {H H' : Hp} {x dx d1 d2 d3 d4 : Addr} (n : New C H H' x d1 d2 d3 d4) (hx : H x = some (.ins C dx [])) : StAt K C (fun b => H b = none) H' x d1 d2 d3 d4 [] [] [] [] 0 :=
  ⟨n.ob, n.e1, (fun _ m => nomatch m), n.e2, (fun _ m => nomatch m), (fun _ m => nomatch m), .nil, .nil, n.e3, (fun _ m => nomatch m), n.e4, ⟨n.n1, n.n2, n.n3, n.n4, by rw [hx]; exact fun z => nomatch z⟩, n.ne,
    fun a h => by
      by_cases w : a = x
      · obtain ⟨dx, ob⟩ := n.ob
        rw [w, ob] at h
        cases h
      · exact n.gw.free h w, ⟨Nat.le_refl _, Nat.le_refl _, Nat.le_refl _, Nat.le_refl _⟩⟩
theorem fund_ok {P : Program} {w : World} {K : PySem.W.Frag} {mg : Str → Option Value} {base : Heap} {x qual : Str} {st : Stmt} {dvs : List V} {kws : List (Str × V)} {f : Addr} {fd : FuncData} {N ps : List Str} {k : Nat} {sp : Sp}
    (F : FunD K x qual (defArgs st) (defBody st) (defScope st) dvs kws f fd) (S : FnScope N ps (defScope st)) (len : ∀ vs H Q E, sp vs H Q E → vs.length = ps.length)
    (hbody : ∀ (cdv : Value) (A : Around) (outer : List Env) (s : Shared) (H : Hp) (vs : List V) (Q : VK) (E : XK), Room k (A.deeper (envOfC qual (defScope st) s.heap.objs.size f cdv)) → sp vs H Q E →
      ∃ t, PSs (cxOf CX0 P w K mg base N qual (defScope st) f cdv A outer s H E).nox (defBody st) t ∧ t { nx := fun _ H' => Q .non H', rt := Q } (start N vs) H) : FnOk P w K mg base CX0 (k + 1) f fd ps sp := by
  refine F.ok S len fun cdv A outer s H vs Q E hr hsp => ?_
  obtain ⟨t, h, q⟩ := hbody cdv A outer s H vs Q E hr hsp
  exact ⟨t, h.nox, q⟩
section
variable {P : Program} {w : World} {K : PySem.W.Frag} {mg : Str → Option Value} {base : Heap} {C : Addr}
theorem ok_init {f : Addr} {fd : FuncData} {dvs : List V} {kws : List (Str × V)} (F0 : FunD K "__init__" "State.__init__" (defArgs sInit) (defBody sInit) (defScope sInit) dvs kws f fd) (T : Txt K mg C)
    (Dput_item : Kn P w K mg base 5 "put_item" ["state", "item"] (spPutItem K C)) :
    FnOk P w K mg base CX0 6 f fd ["self", "items"] (spInit K C) := by
  refine fund_ok F0 scInit (fun vs H Q E h => ?_) (fun cdv A outer s H vs Q E hr h => ?_)
  · obtain ⟨x, a, dx, its, rfl, _⟩ := h
    rfl
  · obtain ⟨x, a, dx, its, rfl, hx, ha, hi, li, q⟩ := h
    refine ⟨_, (pss_cons (ps_fld (pv 0) pe_dnewK rfl) (pss_cons (ps_fld (pv 0) pe_dnewK rfl) (pss_cons (ps_fld (pv 0) pe_dnewK rfl) (pss_cons (ps_fld (pv 0) pe_dnewK rfl)
      (pss_one (ps_for PassesOwn.never rfl (pi_list (pv 1)) (pg_name (i := 2) scInit.nd rfl (.inl rfl)) (pss_one (ps_expr (pe_kn Dput_item hr (pa_cons (pv 0) (pa_cons (pv 2) pa_nil))))))))))), ?_⟩
    refine fun d1 h1 => ?_
    have x1 : x ≠ d1 := ne_of_none hx h1
    refine ⟨_, rfl, x, C, dx, [], rfl, (by rw [upd_ne x1]; exact hx), T.cl, T.nR, (by show 0 < 1000; decide), ?_⟩
    refine fun d2 h2 => ?_
    have x2 : x ≠ d2 := ne_of_none upd_same h2
    refine ⟨_, rfl, x, C, dx, _, rfl, (by rw [upd_ne x2]; exact upd_same), T.cl, T.nF, (by show 1 < 1000; decide), ?_⟩
    refine fun d3 h3 => ?_
    have x3 : x ≠ d3 := ne_of_none upd_same h3
    refine ⟨_, rfl, x, C, dx, _, rfl, (by rw [upd_ne x3]; exact upd_same), T.cl, T.nS, (by
      have : (putF "facts" (V.ref d2) (putF "relations" (V.ref d1) [])).length ≤ 2 := by
        have := putF_len "facts" (V.ref d2) (putF "relations" (V.ref d1) [])
        exact Nat.le_trans this (Nat.succ_le_succ (putF_len "relations" (V.ref d1) []))
      exact Nat.lt_of_le_of_lt this (by decide)), ?_⟩
    refine fun d4 h4 => ?_
    have x4 : x ≠ d4 := ne_of_none upd_same h4
    refine ⟨_, rfl, x, C, dx, _, rfl, (by rw [upd_ne x4]; exact upd_same), T.cl, T.nL, (by
      have a1 := putF_len "structures" (V.ref d3) (putF "facts" (V.ref d2) (putF "relations" (V.ref d1) []))
      have a2 := putF_len "facts" (V.ref d2) (putF "relations" (V.ref d1) [])
      have a3 := putF_len "relations" (V.ref d1) []
      have a4 : ([] : List (Str × V)).length = 0 := rfl
      omega), ?_⟩
    have nw : New C H (upd (upd (upd (upd (upd (upd (upd (upd H d1 (.dK [])) x (.ins C dx (putF "relations" (.ref d1) []))) d2 (.dK [])) x (.ins C dx (putF "facts" (.ref d2) (putF "relations" (.ref d1) [])))) d3 (.dK [])) x
        (.ins C dx (putF "structures" (.ref d3) (putF "facts" (.ref d2) (putF "relations" (.ref d1) []))))) d4 (.dK [])) x (.ins C dx (putF "layouts" (.ref d4) (putF "structures" (.ref d3) (putF "facts" (.ref d2) (putF "relations" (.ref d1) [])))))) x d1 d2 d3 d4 := by
      have f2 : (upd H d1 (.dK [])) d2 = none := by rw [← upd_ne (H := upd H d1 (.dK [])) (a := x) (o := .ins C dx (putF "relations" (.ref d1) [])) x2.symm]; exact h2
      have n12 : d1 ≠ d2 := ne_of_none upd_same f2
      have f2' : H d2 = none := by rw [← upd_ne (H := H) (a := d1) (o := .dK []) n12.symm]; exact f2
      have f3a := h3
      rw [upd_ne x3.symm] at f3a
      have n23 : d2 ≠ d3 := ne_of_none upd_same f3a
      have f3b : (upd H d1 (.dK [])) d3 = none := by
        rw [upd_ne n23.symm, upd_ne x3.symm] at f3a
        exact f3a
      have n13 : d1 ≠ d3 := ne_of_none upd_same f3b
      have f3' : H d3 = none := by rw [upd_ne n13.symm] at f3b; exact f3b
      rw [upd_ne x4.symm] at h4
      have n34 : d3 ≠ d4 := ne_of_none upd_same h4
      rw [upd_ne n34.symm, upd_ne x4.symm] at h4
      have n24 : d2 ≠ d4 := ne_of_none upd_same h4
      rw [upd_ne n24.symm, upd_ne x4.symm] at h4
      have n14 : d1 ≠ d4 := ne_of_none upd_same h4
      rw [upd_ne n14.symm] at h4
      refine ⟨⟨dx, upd_same⟩, ?_, ?_, ?_, ?_, h1, f2', f3', h4, ⟨n12, n13, n14, n23, n24, n34⟩, ?_⟩
      · rw [upd_ne x1.symm, upd_ne n14, upd_ne x1.symm, upd_ne n13, upd_ne x1.symm, upd_ne n12, upd_ne x1.symm, upd_same]
      · rw [upd_ne x2.symm, upd_ne n24, upd_ne x2.symm, upd_ne n23, upd_ne x2.symm, upd_same]
      · rw [upd_ne x3.symm, upd_ne n34, upd_ne x3.symm, upd_same]
      · rw [upd_ne x4.symm, upd_same]
      · intro b o hb e
        rw [upd_ne hb, upd_ne (ne_of_none e h4), upd_ne hb, upd_ne (ne_of_none e f3'), upd_ne hb, upd_ne (ne_of_none e f2'), upd_ne hb, upd_ne (ne_of_none e h1)]
        exact e
    generalize (upd (upd (upd (upd (upd (upd (upd (upd H d1 (.dK [])) x (.ins C dx (putF "relations" (.ref d1) []))) d2 (.dK [])) x (.ins C dx (putF "facts" (.ref d2) (putF "relations" (.ref d1) [])))) d3 (.dK [])) x
        (.ins C dx (putF "structures" (.ref d3) (putF "facts" (.ref d2) (putF "relations" (.ref d1) []))))) d4 (.dK [])) x (.ins C dx (putF "layouts" (.ref d4) (putF "structures" (.ref d3) (putF "facts" (.ref d2) (putF "relations" (.ref d1) [])))))) = H1 at nw
    have st0 := nw.st (K := K) hx
    have sl1 := SqL.gw hx nw.gw ha
    refine ⟨_, rfl, a, rfl, ⟨_, sl1⟩, for_list (K := K) (a := a) (xs := its.map fun t => .ref t.1) (fun i σ H4 => ∃ (y2 : Option V) (R S : Tb) (F : Fb) (L : List (Str × V)), σ = [some (.ref x), some (.ref a), y2] ∧
        StAt K C (fun b => H b = none) H4 x d1 d2 d3 d4 R F S L i ∧ Puts ((its.take i).map (·.2)) R F S L ∧ Gw x H H4)
      ⟨none, [], [], [], [], rfl, st0, .nil, nw.gw⟩ (fun i σ H4 _ hP => ?_) (fun i y σ H4 hy hP => ?_) (fun σ H4 hP => ?_)⟩
    · obtain ⟨_, _, _, _, _, _, _, _, g⟩ := hP
      exact SqL.gw hx g ha
    · obtain ⟨y2, R, S, F, L, rfl, st, pu, g⟩ := hP
      rw [List.getElem?_map] at hy
      cases e : its[i]? with
      | none => rw [e] at hy; cases hy
      | some t =>
        rw [e] at hy
        have ey : V.ref t.1 = y := Option.some.inj hy
        subst ey
        have il : i < its.length := (List.getElem?_eq_some_iff.mp e).1
        refine ⟨_, rfl, _, rfl, x, t.1, t.2, d1, d2, d3, d4, _, R, S, F, L, i, rfl, st, by omega, (hi t (List.mem_of_getElem? e)).tk (Tk.gwi hx g), fun R' F' S' L' H' pi st' kp tk => ?_⟩
        refine ⟨_, R', S', F', L', rfl, st', ?_, fun b o nb hb => kp b o (fun (z : H b = none) => by rw [hb] at z; cases z) (g b o nb hb)⟩
        have e2 : its.take (i + 1) = its.take i ++ [t] := by rw [List.take_add_one, e]; rfl
        rw [e2, List.map_append]
        exact .snoc pu pi
    · obtain ⟨y2, R, S, F, L, rfl, st, pu, g⟩ := hP
      rw [List.length_map] at st pu
      rw [List.take_length] at pu
      exact q _ _ _ _ _ _ _ _ _ (st.up (by omega)) pu g
theorem ok_init0 {f : Addr} {fd : FuncData} {dvs : List V} {kws : List (Str × V)} (F0 : FunD K "__init__" "State.__init__" (defArgs sInit) (defBody sInit) (defScope sInit) dvs kws f fd) (T : Txt K mg C)
    (Dput_item : Kn P w K mg base 5 "put_item" ["state", "item"] (spPutItem K C)) :
    FnOk P w K mg base CX0 6 f fd ["self", "items"] (spInit0 K C) := by
  refine fund_ok F0 scInit (fun vs H Q E h => ?_) (fun cdv A outer s H vs Q E hr h => ?_)
  · obtain ⟨x, a, dx, rfl, _⟩ := h
    rfl
  · obtain ⟨x, a, dx, rfl, hx, ha, q⟩ := h
    refine ⟨_, (pss_cons (ps_fld (pv 0) pe_dnewK rfl) (pss_cons (ps_fld (pv 0) pe_dnewK rfl) (pss_cons (ps_fld (pv 0) pe_dnewK rfl) (pss_cons (ps_fld (pv 0) pe_dnewK rfl)
      (pss_one (ps_for PassesOwn.never rfl (pi_tup (pv 1)) (pg_name (i := 2) scInit.nd rfl (.inl rfl)) (pss_one (ps_expr (pe_kn Dput_item hr (pa_cons (pv 0) (pa_cons (pv 2) pa_nil))))))))))), ?_⟩
    refine fun d1 h1 => ?_
    have x1 : x ≠ d1 := ne_of_none hx h1
    refine ⟨_, rfl, x, C, dx, [], rfl, (by rw [upd_ne x1]; exact hx), T.cl, T.nR, (by show 0 < 1000; decide), ?_⟩
    refine fun d2 h2 => ?_
    have x2 : x ≠ d2 := ne_of_none upd_same h2
    refine ⟨_, rfl, x, C, dx, _, rfl, (by rw [upd_ne x2]; exact upd_same), T.cl, T.nF, (by show 1 < 1000; decide), ?_⟩
    refine fun d3 h3 => ?_
    have x3 : x ≠ d3 := ne_of_none upd_same h3
    refine ⟨_, rfl, x, C, dx, _, rfl, (by rw [upd_ne x3]; exact upd_same), T.cl, T.nS, (by
      have : (putF "facts" (V.ref d2) (putF "relations" (V.ref d1) [])).length ≤ 2 := by
        have := putF_len "facts" (V.ref d2) (putF "relations" (V.ref d1) [])
        exact Nat.le_trans this (Nat.succ_le_succ (putF_len "relations" (V.ref d1) []))
      exact Nat.lt_of_le_of_lt this (by decide)), ?_⟩
    refine fun d4 h4 => ?_
    have x4 : x ≠ d4 := ne_of_none upd_same h4
    refine ⟨_, rfl, x, C, dx, _, rfl, (by rw [upd_ne x4]; exact upd_same), T.cl, T.nL, (by
      have a1 := putF_len "structures" (V.ref d3) (putF "facts" (V.ref d2) (putF "relations" (V.ref d1) []))
      have a2 := putF_len "facts" (V.ref d2) (putF "relations" (V.ref d1) [])
      have a3 := putF_len "relations" (V.ref d1) []
      have a4 : ([] : List (Str × V)).length = 0 := rfl
      omega), ?_⟩
    have nw : New C H (upd (upd (upd (upd (upd (upd (upd (upd H d1 (.dK [])) x (.ins C dx (putF "relations" (.ref d1) []))) d2 (.dK [])) x (.ins C dx (putF "facts" (.ref d2) (putF "relations" (.ref d1) [])))) d3 (.dK [])) x
        (.ins C dx (putF "structures" (.ref d3) (putF "facts" (.ref d2) (putF "relations" (.ref d1) []))))) d4 (.dK [])) x (.ins C dx (putF "layouts" (.ref d4) (putF "structures" (.ref d3) (putF "facts" (.ref d2) (putF "relations" (.ref d1) [])))))) x d1 d2 d3 d4 := by
      have f2 : (upd H d1 (.dK [])) d2 = none := by rw [← upd_ne (H := upd H d1 (.dK [])) (a := x) (o := .ins C dx (putF "relations" (.ref d1) [])) x2.symm]; exact h2
      have n12 : d1 ≠ d2 := ne_of_none upd_same f2
      have f2' : H d2 = none := by rw [← upd_ne (H := H) (a := d1) (o := .dK []) n12.symm]; exact f2
      have f3a := h3
      rw [upd_ne x3.symm] at f3a
      have n23 : d2 ≠ d3 := ne_of_none upd_same f3a
      have f3b : (upd H d1 (.dK [])) d3 = none := by
        rw [upd_ne n23.symm, upd_ne x3.symm] at f3a
        exact f3a
      have n13 : d1 ≠ d3 := ne_of_none upd_same f3b
      have f3' : H d3 = none := by rw [upd_ne n13.symm] at f3b; exact f3b
      rw [upd_ne x4.symm] at h4
      have n34 : d3 ≠ d4 := ne_of_none upd_same h4
      rw [upd_ne n34.symm, upd_ne x4.symm] at h4
      have n24 : d2 ≠ d4 := ne_of_none upd_same h4
      rw [upd_ne n24.symm, upd_ne x4.symm] at h4
      have n14 : d1 ≠ d4 := ne_of_none upd_same h4
      rw [upd_ne n14.symm] at h4
      refine ⟨⟨dx, upd_same⟩, ?_, ?_, ?_, ?_, h1, f2', f3', h4, ⟨n12, n13, n14, n23, n24, n34⟩, ?_⟩
      · rw [upd_ne x1.symm, upd_ne n14, upd_ne x1.symm, upd_ne n13, upd_ne x1.symm, upd_ne n12, upd_ne x1.symm, upd_same]
      · rw [upd_ne x2.symm, upd_ne n24, upd_ne x2.symm, upd_ne n23, upd_ne x2.symm, upd_same]
      · rw [upd_ne x3.symm, upd_ne n34, upd_ne x3.symm, upd_same]
      · rw [upd_ne x4.symm, upd_same]
      · intro b o hb e
        rw [upd_ne hb, upd_ne (ne_of_none e h4), upd_ne hb, upd_ne (ne_of_none e f3'), upd_ne hb, upd_ne (ne_of_none e f2'), upd_ne hb, upd_ne (ne_of_none e h1)]
        exact e
    generalize (upd (upd (upd (upd (upd (upd (upd (upd H d1 (.dK [])) x (.ins C dx (putF "relations" (.ref d1) []))) d2 (.dK [])) x (.ins C dx (putF "facts" (.ref d2) (putF "relations" (.ref d1) [])))) d3 (.dK [])) x
        (.ins C dx (putF "structures" (.ref d3) (putF "facts" (.ref d2) (putF "relations" (.ref d1) []))))) d4 (.dK [])) x (.ins C dx (putF "layouts" (.ref d4) (putF "structures" (.ref d3) (putF "facts" (.ref d2) (putF "relations" (.ref d1) [])))))) = H1 at nw
    have st0 := nw.st (K := K) hx
    have sl1 := Tk.gwi hx nw.gw _ _ ha
    refine ⟨_, rfl, a, rfl, ⟨_, sl1⟩, for_tup (K := K) (a := a) (xs := []) (fun i σ H4 => H4 = H1) rfl (fun i σ H4 _ hP => ?_) (fun i y σ H4 hy hP => ?_) (fun σ H4 hP => ?_)⟩
    · rw [hP]; exact sl1
    · cases hy
    · rw [hP]
      exact q _ _ _ _ _ (st0.up (by decide)) nw.gw
end
end K1
namespace K1
open PySem PySem.Spec PyProof.Rows L2 Ow Tlz
/-! names in their order -/
theorem rising_pw : ∀ (r : List Str) (p : Str), risingS p r = true → (∀ x ∈ r, ¬ x.cps.toList < p.cps.toList) ∧ r.Pairwise fun a b => ¬ b.cps.toList < a.cps.toList
  | [], p, _ => ⟨(fun _ m => nomatch m), .nil⟩
  | x :: r, p, h => by
    rw [risingS, Bool.and_eq_true, ltCps_eq] at h
    have h1 : ¬ x.cps.toList < p.cps.toList := fun z => by
      rw [decide_eq_true z] at h
      exact absurd h.1 (by decide)
    obtain ⟨a, b⟩ := rising_pw r x h.2
    refine ⟨fun y m => ?_, List.pairwise_cons.mpr ⟨fun y m => a y m, b⟩⟩
    rcases List.mem_cons.mp m with rfl | m
    · exact h1
    · intro z
      have z1 := a y m
      have z2 := List.le_trans (show p.cps.toList ≤ x.cps.toList from h1) (show x.cps.toList ≤ y.cps.toList from z1)
      exact z2 z
theorem sortedS_pw : ∀ {xs : List Str}, sortedS xs = true → xs.Pairwise fun a b => ¬ b.cps.toList < a.cps.toList
  | [], _ => .nil
  | x :: r, h => List.pairwise_cons.mpr (rising_pw r x h)
theorem sortedS_one {xs ys : List Str} (hx : sortedS xs = true) (hy : sortedS ys = true) (p : xs.Perm ys) : xs = ys :=
  List.Perm.eq_of_pairwise (le := fun a b => ¬ b.cps.toList < a.cps.toList) (fun a b _ _ h1 h2 => by
    rcases str_tot a b with h | h | h
    · exact absurd h h2
    · exact h
    · exact absurd h h1) (sortedS_pw hx) (sortedS_pw hy) p
/-! places -/
def roomOf (R : Tb) (n : Str) : Int := match valG R n with
  | some (_, [_, .int r]) => r
  | _ => 0
def sizeOf2 (S : Tb) (n : Str) : Int := match valG S n with
  | some (_, [_, _, .int b, .int s]) => b * s
  | _ => 0
def RelC (R : Tb) : Prop := ∀ e ∈ R, ∃ c r, e.2.2 = [c, .int r]
def StrC (S : Tb) : Prop := ∀ e ∈ S, ∃ u v b s, e.2.2 = [u, v, .int b, .int s] ∧ 0 ≤ b ∧ b ≤ 1000
def plStep (w : Str) (rm : Str → Int) (a : List (List Key × V) × Int) (n : Str) : List (List Key × V) × Int := (putK a.1 [Sum.inr w, Sum.inr n] (.int a.2), a.2 + rm n)
def pl1 (rm : Str → Int) (ys : List Str) : List (List Key × V) × Int := ys.foldl (plStep "relation" rm) ([], 0)
def pl2 (rm sm : Str → Int) (ys zs : List Str) : List (List Key × V) × Int := zs.foldl (plStep "structure" sm) (pl1 rm ys)
theorem pl_len (w : Str) (rm : Str → Int) : ∀ (ys : List Str) (a : List (List Key × V) × Int), (ys.foldl (plStep w rm) a).1.length ≤ a.1.length + ys.length
  | [], a => Nat.le_refl _
  | y :: ys, a => by
    rw [List.foldl_cons, List.length_cons]
    have h1 := pl_len w rm ys (plStep w rm a y)
    have h2 : (plStep w rm a y).1.length ≤ a.1.length + 1 := length_putK _ _ _
    omega
theorem pl_sum (w : Str) (rm : Str → Int) : ∀ (ys : List Str) (a : List (List Key × V) × Int), (ys.foldl (plStep w rm) a).2 = a.2 + (ys.map rm).sum
  | [], a => by simp
  | y :: ys, a => by
    rw [List.foldl_cons, pl_sum w rm ys, List.map_cons, List.sum_cons]
    show a.2 + rm y + _ = _
    omega
theorem kvR_val (R : Tb) (n : Str) : valV (kvR R) (Sum.inr n) = (valG R n).map fun b => V.ref b.1 := kvG_val _ _ _
theorem kvR_keys (R : Tb) : (kvR R).map (·.1) = (R.map (·.1)).map Sum.inr := by
  unfold kvR kvG
  rw [List.map_map, List.map_map]
  rfl
theorem mem_val {R : Tb} {n : Str} (h : n ∈ R.map (·.1)) : ∃ q c, valG R n = some (q, c) ∧ (n, q, c) ∈ R := by
  cases e : valG R n with
  | none =>
    obtain ⟨x, mx, ex⟩ := List.mem_map.mp h
    exact absurd ex (valG_none e x mx)
  | some b => exact ⟨b.1, b.2, rfl, valG_mem e⟩
def spPlaces (K : PySem.W.Frag) (C : Addr) : Sp := fun vs H Q _ => ∃ (x dr df ds dl : Addr) (Z : Addr → Prop) (R S : Tb) (F : Fb) (L : List (Str × V)) (b : Nat), vs = [.ref x] ∧ StAt K C Z H x dr df ds dl R F S L b ∧ RelC R ∧ StrC S ∧ R.length < 64 ∧ S.length < 64 ∧
  ∀ (ys zs : List Str) (p : Addr) H', ys.Perm (R.map (·.1)) → sortedS ys = true → zs.Perm (S.map (·.1)) → sortedS zs = true → Same H H' → H p = none → H' p = some (.dT (pl2 (roomOf R) (sizeOf2 S) ys zs).1) → Q (.ref p) H'
theorem ix_tup_K {X : Cx} {K : PySem.W.Frag} (e : X.K = K) : IxR X (rIxT K) := by
  subst e
  exact ix_tup
theorem pe_fld_K {X : Cx} {K : PySem.W.Frag} (e : X.K = K) {o : Expr} {ta : TE} {f : Str} {pos : Pos} (ha : PE X o ta) (hb : attributeBase o f X.env (eval o X.env) = eval o X.env) : PE X (.Attribute o f pos) (tFld K ta f) := by
  subst e
  exact pe_fld ha hb
def spNeeded (K : PySem.W.Frag) (C : Addr) : Sp := fun vs H Q _ => ∃ (x dr df ds dl : Addr) (Z : Addr → Prop) (R S : Tb) (F : Fb) (L : List (Str × V)) (b : Nat), vs = [.ref x] ∧ StAt K C Z H x dr df ds dl R F S L b ∧ RelC R ∧ StrC S ∧ R.length < 64 ∧ S.length < 64 ∧
  ∀ H', Same H H' → Q (.int (((R.map (·.1)).map (roomOf R)).sum + ((S.map (·.1)).map (sizeOf2 S)).sum)) H'
theorem Same.lock {d : Addr} {od : Obj} {u : HO} {H H' : Hp} (hd : H d = some u) (s : Same (upd H d (.frz od u)) H') : Same H (upd H' d u) := fun b o e => by
  by_cases w : b = d
  · subst w
    rw [upd_same, ← hd, e]
  · rw [upd_ne w]
    exact s b o (by rw [upd_ne w]; exact e)
theorem kvR_at {R : Tb} {i : Nat} {k : Key} {v : V} (h : (kvR R)[i]? = some (k, v)) : ∃ e, R[i]? = some e ∧ k = Sum.inr e.1 ∧ v = .ref e.2.1 := by
  unfold kvR kvG at h
  rw [List.getElem?_map] at h
  cases z : R[i]? with
  | none => rw [z] at h; cases h
  | some e =>
    rw [z] at h
    have := Option.some.inj h
    exact ⟨e, rfl, (congrArg Prod.fst this).symm, (congrArg Prod.snd this).symm⟩
theorem dget_n {H : Hp} {d : Addr} {R : Tb} {n : Str} {q : Addr} {c : List V} (h : Rd H d (.dK (kvR R))) (e : valG R n = some (q, c)) : DGet H d (.str n) (some (.ref q)) := by
  refine .inl ⟨kvR R, Sum.inr n, h, rfl, ?_⟩
  rw [kvR_val, e]
  rfl
theorem room_eq {R : Tb} {n : Str} {q : Addr} {c : V} {r : Int} (e : valG R n = some (q, [c, .int r])) : roomOf R n = r := by
  unfold roomOf
  rw [e]
theorem size_eq {S : Tb} {n : Str} {q : Addr} {u v : V} {b s : Int} (e : valG S n = some (q, [u, v, .int b, .int s])) : sizeOf2 S n = b * s := by
  unfold sizeOf2
  rw [e]

def wd (b : Bool) : Str := if b = true then "relation" else "structure"
def rmB (R S : Tb) (e : Bool × Str) : Int := if e.1 = true then roomOf R e.2 else sizeOf2 S e.2
def nmE (ys zs : List Str) : List (Bool × Str) := ys.map (fun n => (true, n)) ++ zs.map (fun n => (false, n))
def plE (R S : Tb) (es : List (Bool × Str)) : List (List Key × V) × Int := es.foldl (fun a e => plStep (wd e.1) (fun _ => rmB R S e) a e.2) ([], 0)
theorem plE_eq (R S : Tb) (ys zs : List Str) : plE R S (nmE ys zs) = pl2 (roomOf R) (sizeOf2 S) ys zs := by
  unfold plE nmE pl2 pl1
  rw [List.foldl_append, List.foldl_map, List.foldl_map]
  rfl
theorem plE_len (R S : Tb) (es : List (Bool × Str)) : (plE R S es).1.length ≤ es.length := by
  have h : ∀ (es : List (Bool × Str)) (a : List (List Key × V) × Int), (es.foldl (fun a e => plStep (wd e.1) (fun _ => rmB R S e) a e.2) a).1.length ≤ a.1.length + es.length := by
    intro es
    induction es with
    | nil => intro a; exact Nat.le_refl _
    | cons e es ih =>
      intro a
      rw [List.foldl_cons, List.length_cons]
      have h1 := ih (plStep (wd e.1) (fun _ => rmB R S e) a e.2)
      have h2 : (plStep (wd e.1) (fun _ => rmB R S e) a e.2).1.length ≤ a.1.length + 1 := length_putK _ _ _
      omega
  exact Nat.le_trans (h es ([], 0)) (by rw [List.length_nil]; omega)
theorem sum_perm {xs ys : List Int} (p : xs.Perm ys) : xs.sum = ys.sum := by
  induction p with
  | nil => rfl
  | cons x _ ih => rw [List.sum_cons, List.sum_cons, ih]
  | swap x y l => rw [List.sum_cons, List.sum_cons, List.sum_cons, List.sum_cons]; omega
  | trans _ _ h1 h2 => exact h1.trans h2
theorem nmE_sum {R S : Tb} {ys zs : List Str} (py : ys.Perm (R.map (·.1))) (pz : zs.Perm (S.map (·.1))) :
    ((nmE ys zs).map (rmB R S)).sum = ((R.map (·.1)).map (roomOf R)).sum + ((S.map (·.1)).map (sizeOf2 S)).sum := by
  unfold nmE
  rw [List.map_append, List.sum_append, List.map_map, List.map_map, ← sum_perm (py.map (roomOf R)), ← sum_perm (pz.map (sizeOf2 S))]
  rfl
theorem nmE_mem {R S : Tb} {ys zs : List Str} {e : Bool × Str} (py : ys.Perm (R.map (·.1))) (pz : zs.Perm (S.map (·.1))) (m : e ∈ nmE ys zs) :
    (e.1 = true → e.2 ∈ R.map (·.1)) ∧ (e.1 = false → e.2 ∈ S.map (·.1)) := by
  unfold nmE at m
  rcases List.mem_append.mp m with m | m
  · obtain ⟨n, mn, rfl⟩ := List.mem_map.mp m
    exact ⟨fun _ => py.mem_iff.mp mn, fun z => by cases z⟩
  · obtain ⟨n, mn, rfl⟩ := List.mem_map.mp m
    exact ⟨fun z => (by cases z), fun _ => pz.mem_iff.mp mn⟩
theorem nmE_len {R S : Tb} {ys zs : List Str} (py : ys.Perm (R.map (·.1))) (pz : zs.Perm (S.map (·.1))) : (nmE ys zs).length = R.length + S.length := by
  unfold nmE
  rw [List.length_append, List.length_map, List.length_map, py.length_eq, pz.length_eq, List.length_map, List.length_map]
def NmE (H : Hp) (ts : List Addr) (es : List (Bool × Str)) : Prop := ts.length = es.length ∧ ∀ (i : Nat) (t : Addr) (e : Bool × Str), ts[i]? = some t → es[i]? = some e → H t = some (.tup [.str (wd e.1), .str e.2])
theorem NmE.same {H H' : Hp} {ts : List Addr} {es : List (Bool × Str)} (h : NmE H ts es) (s : Same H H') : NmE H' ts es := ⟨h.1, fun i t e a b => s _ _ (h.2 i t e a b)⟩
theorem NmE.app {H : Hp} {ts us : List Addr} {es fs : List (Bool × Str)} (h : NmE H ts es) (g : NmE H us fs) : NmE H (ts ++ us) (es ++ fs) := by
  refine ⟨by rw [List.length_append, List.length_append, h.1, g.1], fun i t e a b => ?_⟩
  rcases Nat.lt_or_ge i ts.length with z | z
  · rw [List.getElem?_append_left z] at a
    rw [List.getElem?_append_left (by rw [← h.1]; exact z)] at b
    exact h.2 i t e a b
  · rw [List.getElem?_append_right z] at a
    rw [List.getElem?_append_right (by rw [← h.1]; exact z), ← h.1] at b
    exact g.2 _ t e a b
def spRoomOf (K : PySem.W.Frag) (C : Addr) : Sp := fun vs H Q _ => ∃ (x dr df ds dl : Addr) (Z : Addr → Prop) (R S : Tb) (F : Fb) (L : List (Str × V)) (b : Nat) (t : Addr) (e : Bool × Str), vs = [.ref x, .ref t] ∧ StAt K C Z H x dr df ds dl R F S L b ∧ RelC R ∧ StrC S ∧
  SqT K H t [.str (wd e.1), .str e.2] ∧ ((e.1 = true → e.2 ∈ R.map (·.1)) ∧ (e.1 = false → e.2 ∈ S.map (·.1))) ∧ Q (.int (rmB R S e)) H
def spNames (K : PySem.W.Frag) (C : Addr) : Sp := fun vs H Q _ => ∃ (x dr df ds dl : Addr) (Z : Addr → Prop) (R S : Tb) (F : Fb) (L : List (Str × V)) (b : Nat), vs = [.ref x] ∧ StAt K C Z H x dr df ds dl R F S L b ∧ R.length < 64 ∧ S.length < 64 ∧
  ∀ (ys zs : List Str) (ts : List Addr) (p : Addr) H', ys.Perm (R.map (·.1)) → sortedS ys = true → zs.Perm (S.map (·.1)) → sortedS zs = true → Same H H' → H p = none → H' p = some (.lst (ts.map V.ref)) → NmE H' ts (nmE ys zs) → Q (.ref p) H'
abbrev sroom_of : Stmt := topS 10
abbrev Nroom_of : List Str := ["state", "name", "sort", "told"]
theorem scroom_of : FnScope Nroom_of ["state", "name"] (defScope sroom_of) := ⟨rfl, rfl, rfl, by decide +kernel, rfl, by decide +kernel, by decide +kernel⟩
/-- every turn gives a new tuple, of the row i -/
theorem lc_tup {J : L2.It} {n : Nat} {G : Hp → Prop} {Y : Nat → Hp → V → Hp → Prop} (w : Walk J n G Y) (row : Nat → List V) (hn : n < sizeLine) {g : TG} {te : TE} {vs : List Nat} {σ : L2.St} {H1 : Hp} {D : Addr} {Qd : Hp → Prop} (hD : H1 D = none)
    (hG : ∀ H, Same H1 H → G H)
    (hs : ∀ i x H H' (N : VK), i < n → Same H1 H → Y i H x H' → (∀ H4 q, Same H H4 → H q = none → H4 q = some (.tup (row i)) → N (.ref q) H4) → g x (wipe σ vs) H' fun σ2 H2 => wipe σ2 vs = wipe σ vs ∧ te σ2 H2 N)
    (hd : ∀ (H : Hp) (ts : List Addr), Same H1 H → H D = some (.lst (ts.map V.ref)) → ts.length = n → (∀ i t, ts[i]? = some t → H t = some (.tup (row i))) → Qd H) :
    ∃ W : Nat → Nat → Hp → Prop, (∃ m, W 0 m (upd H1 D (.lst []))) ∧ ∀ i m H, W i m H →
      (J.stop i H ∧ Qd H) ∨ (J.go i H ∧ ∃ Nx : Hp → Prop, (∀ H', Nx H' → ∃ m', m' < m ∧ W (i + 1) m' H') ∧ ∀ x H', J.yld i H x H' → g x (wipe σ vs) H' fun σ2 H2 => wipe σ2 vs = wipe σ vs ∧ tYes σ2 H2 fun b H3 =>
        if b = true then te σ2 H3 fun y H4 => ∃ acc, H4 D = some (.lst acc) ∧ acc.length < sizeLine ∧ Nx (upd H4 D (.lst (acc ++ [y]))) else Nx H3) := by
  refine lc_it w (fun i H => Same H1 H ∧ ∃ ts : List Addr, H D = some (.lst (ts.map V.ref)) ∧ ts.length = i ∧ ∀ j t, ts[j]? = some t → t ≠ D ∧ H t = some (.tup (row j))) ⟨Same.new hD, [], upd_same, rfl, fun j t e => by simp at e⟩ (fun i H _ h => hG H h.1) (fun i x H H' hi h y => ?_) fun H h => ?_
  · obtain ⟨s, ts, eD, el, et⟩ := h
    refine hs i x H H' _ hi s y fun H4 q s4 nq eq => ?_
    have qD : q ≠ D := fun z => by rw [z, eD] at nq; cases nq
    refine ⟨_, s4 _ _ eD, by rw [List.length_map, el]; exact Nat.lt_trans hi hn, Same.over (s.trans s4) hD, ts ++ [q], ?_, by rw [List.length_append, el]; rfl, fun j t ej => ?_⟩
    · rw [upd_same, List.map_append]
      rfl
    · rcases Nat.lt_trichotomy j ts.length with h1 | h1 | h1
      · rw [List.getElem?_append_left h1] at ej
        obtain ⟨f2, f3⟩ := et j t ej
        exact ⟨f2, by rw [upd_ne f2]; exact s4 _ _ f3⟩
      · subst h1
        have e2 : q = t := by simpa using ej
        subst e2
        exact ⟨qD, by rw [upd_ne qD, el]; exact eq⟩
      · rw [List.getElem?_eq_none (by rw [List.length_append, List.length_singleton]; omega)] at ej
        cases ej
  · obtain ⟨s, ts, eD, el, et⟩ := h
    exact hd H ts s eD el fun i t e => (et i t e).2
/-- a comprehension whose turns leave what was: of the turns i with p i the value ys i -/
theorem lc_fl {J : L2.It} {n : Nat} {G : Hp → Prop} {Y : Nat → Hp → V → Hp → Prop} (w : Walk J n G Y) (p : Nat → Bool) (ys : Nat → V) (hn : n < sizeLine) {g : TG} {tt : TT} {te : TE} {vs : List Nat} {σ : L2.St} {H1 : Hp} {D : Addr} {Qd : Hp → Prop} (hD : H1 D = none)
    (hG : ∀ H, Same H1 H → G H)
    (hs : ∀ i x H H' (N : VK) (M : Hp → Prop), i < n → Same H1 H → Y i H x H' → (p i = true → ∀ H4, Same H H4 → N (ys i) H4) → (p i = false → ∀ H4, Same H H4 → M H4) →
      g x (wipe σ vs) H' fun σ2 H2 => wipe σ2 vs = wipe σ vs ∧ tt σ2 H2 fun b H3 => if b = true then te σ2 H3 N else M H3)
    (hd : ∀ H, Same H1 H → H D = some (.lst (((List.range n).filter p).map ys)) → Qd H) :
    ∃ W : Nat → Nat → Hp → Prop, (∃ m, W 0 m (upd H1 D (.lst []))) ∧ ∀ i m H, W i m H →
      (J.stop i H ∧ Qd H) ∨ (J.go i H ∧ ∃ Nx : Hp → Prop, (∀ H', Nx H' → ∃ m', m' < m ∧ W (i + 1) m' H') ∧ ∀ x H', J.yld i H x H' → g x (wipe σ vs) H' fun σ2 H2 => wipe σ2 vs = wipe σ vs ∧ tt σ2 H2 fun b H3 =>
        if b = true then te σ2 H3 fun y H4 => ∃ acc, H4 D = some (.lst acc) ∧ acc.length < sizeLine ∧ Nx (upd H4 D (.lst (acc ++ [y]))) else Nx H3) := by
  have pre : ∀ i, (((List.range i).filter p).map ys).length ≤ i := fun i => by
    rw [List.length_map]
    exact Nat.le_trans (List.length_filter_le _ _) (by rw [List.length_range]; exact Nat.le_refl _)
  refine lc_it w (fun i H => Same H1 H ∧ H D = some (.lst (((List.range i).filter p).map ys))) ⟨Same.new hD, upd_same⟩ (fun i H _ h => hG H h.1) (fun i x H H' hi h y => ?_) fun H h => hd H h.1 h.2
  have st : ((List.range (i + 1)).filter p).map ys = ((List.range i).filter p).map ys ++ (if p i = true then [ys i] else []) := by
    rw [List.range_succ, List.filter_append, List.map_append]
    cases e : p i <;> simp [List.filter, e]
  refine hs i x H H' _ _ hi h.1 y (fun e H4 s4 => ?_) fun e H4 s4 => ?_
  · refine ⟨_, s4 _ _ h.2, Nat.lt_of_le_of_lt (pre i) (Nat.lt_trans hi hn), Same.over (h.1.trans s4) hD, ?_⟩
    rw [upd_same, st, if_pos e]
  · refine ⟨h.1.trans s4, ?_⟩
    rw [s4 _ _ h.2, st, e, if_neg (by decide), List.append_nil]
theorem filter_all {α : Type} (xs : List α) : xs.filter (fun _ => true) = xs := by
  induction xs with
  | nil => rfl
  | cons x r ih => simp [List.filter, ih]
theorem call_sum_K {X : Cx} {K : PySem.W.Frag} (e : X.K = K) (hc : X.calm = true) : CallR X (.builtin "sum") (rSum K) := by
  subst e
  exact cr_sum hc
section
variable {P : Program} {w : World} {K : PySem.W.Frag} {mg : Str → Option Value} {base : Heap} {C : Addr}
theorem ok_roomof {f : Addr} {fd : FuncData} (F0 : Fun K "room_of" "room_of" sroom_of f fd) (T : Bl mg) (X : Txt K mg C) :
    FnOk P w K mg base CX0 1 f fd ["state", "name"] (spRoomOf K C) := by
  refine F0.ok scroom_of (fun vs H Q E h => ?_) (fun cdv A outer s H vs Q E hr h => ?_)
  · obtain ⟨x, dr, df, ds, dl, Z, R, S, F, L, b, t, e, rfl, _⟩ := h
    rfl
  · obtain ⟨x, dr, df, ds, dl, Z, R, S, F, L, b, t, e, rfl, st, rc, sc, ht, mm, q⟩ := h
    have hu := hu_of hr
    refine ⟨_, (pss_cons (ps_asg (pv 1) (pg_tup rfl (pgs_cons (pg_name (i := 2) scroom_of.nd rfl (.inl rfl)) (pgs_cons (pg_name (i := 3) scroom_of.nd rfl (.inl rfl)) pgs_nil))))
      (pss_cons (ps_if (pt_cmpR op_eq (pv 2) pe_str (nomark _)) (pss_one (ps_ret (pe_ix ix_tup (pe_dget hu (pe_fld (pv 0) rfl) (pv 3) (fun _ _ => rfl)) pe_int (fun _ _ => rfl)))) pss_nil)
      (pss_one (ps_ret (pe_op op_mul (pe_ix ix_tup (pe_dget hu (pe_fld (pv 0) rfl) (pv 3) (fun _ _ => rfl)) pe_int (fun _ _ => rfl)) (pe_ix ix_tup (pe_dget hu (pe_fld (pv 0) rfl) (pv 3) (fun _ _ => rfl)) pe_int (fun _ _ => rfl))))))), ?_⟩
    obtain ⟨dx, ob⟩ := st.ob
    obtain ⟨eb, n⟩ := e
    refine ⟨_, rfl, t, _, rfl, ht, rfl, _, _, rfl, _, _, rfl, rfl, ?_⟩
    cases eb with
    | true =>
      obtain ⟨qa, c, ec, m⟩ := mem_val (mm.1 rfl)
      obtain ⟨cc, r, er⟩ := rc _ m
      have er' : c = [cc, .int r] := er
      subst er'
      refine ⟨_, rfl, rfl, _, rfl, ite2 (fun _ => ?_) (fun e => absurd (decide_eq_true rfl) e)⟩
      refine ⟨_, rfl, x, C, dx, _, _, rfl, ob, X.cl, X.nR, flds_r _ _ _ _, _, rfl, dr, _, rfl, dget_n (.inl st.r) ec, qa, _, 1, .int r, rfl, rfl, st.rt _ m, at_of (j := 1) rfl rfl, ?_⟩
      have e2 : rmB R S (true, n) = r := room_eq ec
      rw [e2] at q
      exact q
    | false =>
      obtain ⟨qa, c, ec, m⟩ := mem_val (mm.2 rfl)
      obtain ⟨u, v, b', s', er, b0, b1⟩ := sc _ m
      have er' : c = [u, v, .int b', .int s'] := er
      subst er'
      have ht2 : SqT K H qa [u, v, .int b', .int s'] := st.st _ m
      have n1 : ¬ decide (V.str (wd false) = V.str "relation") = true := fun h => absurd (V.str.inj (of_decide_eq_true h)) (by decide)
      refine ⟨_, rfl, rfl, _, rfl, ite2 (fun e => absurd e n1) (fun _ => ?_)⟩
      refine ⟨_, rfl, x, C, dx, _, _, rfl, ob, X.cl, X.nS, flds_s _ _ _ _, _, rfl, ds, _, rfl, dget_n (.inl st.s) ec, qa, _, 2, .int b', rfl, rfl, ht2, at_of (j := 2) rfl rfl, ?_⟩
      refine ⟨_, rfl, x, C, dx, _, _, rfl, ob, X.cl, X.nS, flds_s _ _ _ _, _, rfl, ds, _, rfl, dget_n (.inl st.s) ec, qa, _, 3, .int s', rfl, rfl, ht2, at_of (j := 3) rfl rfl, b', s', rfl, rfl, .inl ⟨by omega, by omega⟩, ?_⟩
      have e2 : rmB R S (false, n) = b' * s' := size_eq ec
      rw [e2] at q
      exact q
end
end K1
namespace Ow
open PySem PySem.Spec PyProof.Rows L2 K1
theorem ix_list_K {X : Cx} {K : PySem.W.Frag} (e : X.K = K) : IxR X (rIxL K) := by
  subst e
  exact ix_list
theorem op_catA_K {X : Cx} {K : PySem.W.Frag} (e : X.K = K) : OpR X (binaryOp .Add) (rCatA K) := by
  subst e
  exact op_catA
def rTupK (K : PySem.W.Frag) : List V → Hp → VK → Prop := fun xs H Q => ∃ p ys, xs = [V.ref p] ∧ ((SqL K H p ys ∧ ∀ l, H l = none → Q (.ref l) (upd H l (.tup ys))) ∨ (SqT K H p ys ∧ Q (.ref p) H))
theorem call_tuple_K {X : Cx} {K : PySem.W.Frag} (e : X.K = K) : CallR X (.type "tuple") (rTupK K) := by
  subst e
  exact call_tuple_of
def rListK (K : PySem.W.Frag) : List V → Hp → VK → Prop := fun xs H Q => ∃ p ys, xs = [V.ref p] ∧ (SqL K H p ys ∨ SqT K H p ys) ∧ ∀ l, H l = none → Q (.ref l) (upd H l (.lst ys))
theorem call_list_K {X : Cx} {K : PySem.W.Frag} (e : X.K = K) : CallR X (.type "list") (rListK K) := by
  subst e
  exact call_list_of
def rLenK (K : PySem.W.Frag) : List V → Hp → VK → Prop := fun xs H Q => ∃ p ys, xs = [V.ref p] ∧ (SqL K H p ys ∨ SqT K H p ys) ∧ Q (.int (ys.length : Nat)) H
theorem call_len_K {X : Cx} {K : PySem.W.Frag} (e : X.K = K) : CallR X (.builtin "len") (rLenK K) := by
  subst e
  exact call_len_seq
theorem hu65 {k : Nat} {A : Around} (hr : Room k A) : A.units + 65 < cLine := by have := hr.un; omega
theorem Same.upd0 {H H' : Hp} {a : Addr} {o : HO} (n : H a = none) (s : Same (upd H a o) H') : Same H H' := (Same.new n).trans s
theorem Same.at {H H' : Hp} {a : Addr} {o : HO} (s : Same (upd H a o) H') : H' a = some o := s a o upd_same
/-- every turn gives a value -/
theorem lc_mk {J : L2.It} {n : Nat} {G : Hp → Prop} {Y : Nat → Hp → V → Hp → Prop} (w : Walk J n G Y) (ys : Nat → V) (hn : n < sizeLine) {g : TG} {te : TE} {vs : List Nat} {σ : L2.St} {H1 : Hp} {D : Addr} {Qd : Hp → Prop} (hD : H1 D = none)
    (hG : ∀ H, Same H1 H → G H)
    (hs : ∀ i x H H' (N : VK), i < n → Same H1 H → Y i H x H' → (∀ H4, Same H H4 → N (ys i) H4) → g x (wipe σ vs) H' fun σ2 H2 => wipe σ2 vs = wipe σ vs ∧ te σ2 H2 N)
    (hd : ∀ H, Same H1 H → H D = some (.lst ((List.range n).map ys)) → Qd H) :
    ∃ W : Nat → Nat → Hp → Prop, (∃ m, W 0 m (upd H1 D (.lst []))) ∧ ∀ i m H, W i m H →
      (J.stop i H ∧ Qd H) ∨ (J.go i H ∧ ∃ Nx : Hp → Prop, (∀ H', Nx H' → ∃ m', m' < m ∧ W (i + 1) m' H') ∧ ∀ x H', J.yld i H x H' → g x (wipe σ vs) H' fun σ2 H2 => wipe σ2 vs = wipe σ vs ∧ tYes σ2 H2 fun b H3 =>
        if b = true then te σ2 H3 fun y H4 => ∃ acc, H4 D = some (.lst acc) ∧ acc.length < sizeLine ∧ Nx (upd H4 D (.lst (acc ++ [y]))) else Nx H3) :=
  lc_fl w (fun _ => true) ys hn hD hG (fun i x H H' N M hi s y h1 _ => hs i x H H' N hi s y (h1 rfl)) (by rw [K1.filter_all]; exact hd)
/-- every turn gives a new list, of the row i -/
theorem lc_new {J : L2.It} {n : Nat} {G : Hp → Prop} {Y : Nat → Hp → V → Hp → Prop} (w : Walk J n G Y) (row : Nat → List V) (hn : n < sizeLine) {g : TG} {te : TE} {vs : List Nat} {σ : L2.St} {H1 : Hp} {D : Addr} {Qd : Hp → Prop} (hD : H1 D = none)
    (hG : ∀ H, Same H1 H → G H)
    (hs : ∀ i x H H' (N : VK), i < n → Same H1 H → Y i H x H' → (∀ H4 q, Same H H4 → H q = none → H4 q = some (.lst (row i)) → N (.ref q) H4) → g x (wipe σ vs) H' fun σ2 H2 => wipe σ2 vs = wipe σ vs ∧ te σ2 H2 N)
    (hd : ∀ (H : Hp) (ts : List Addr), Same H1 H → H D = some (.lst (ts.map V.ref)) → ts.length = n → (∀ i t, ts[i]? = some t → H1 t = none ∧ t ≠ D ∧ H t = some (.lst (row i))) → Qd H) :
    ∃ W : Nat → Nat → Hp → Prop, (∃ m, W 0 m (upd H1 D (.lst []))) ∧ ∀ i m H, W i m H →
      (J.stop i H ∧ Qd H) ∨ (J.go i H ∧ ∃ Nx : Hp → Prop, (∀ H', Nx H' → ∃ m', m' < m ∧ W (i + 1) m' H') ∧ ∀ x H', J.yld i H x H' → g x (wipe σ vs) H' fun σ2 H2 => wipe σ2 vs = wipe σ vs ∧ tYes σ2 H2 fun b H3 =>
        if b = true then te σ2 H3 fun y H4 => ∃ acc, H4 D = some (.lst acc) ∧ acc.length < sizeLine ∧ Nx (upd H4 D (.lst (acc ++ [y]))) else Nx H3) := by
  refine lc_it w (fun i H => Same H1 H ∧ ∃ ts : List Addr, H D = some (.lst (ts.map V.ref)) ∧ ts.length = i ∧ ∀ j t, ts[j]? = some t → H1 t = none ∧ t ≠ D ∧ H t = some (.lst (row j))) ⟨Same.new hD, [], upd_same, rfl, fun j t e => by simp at e⟩ (fun i H _ h => hG H h.1) (fun i x H H' hi h y => ?_) fun H h => ?_
  · obtain ⟨s, ts, eD, el, et⟩ := h
    refine hs i x H H' _ hi s y fun H4 q s4 nq eq => ?_
    have qD : q ≠ D := fun z => by rw [z, eD] at nq; cases nq
    refine ⟨_, s4 _ _ eD, by rw [List.length_map, el]; exact Nat.lt_trans hi hn, Same.over (s.trans s4) hD, ts ++ [q], ?_, by rw [List.length_append, el]; rfl, fun j t ej => ?_⟩
    · rw [upd_same, List.map_append]
      rfl
    · rcases Nat.lt_trichotomy j ts.length with h1 | h1 | h1
      · rw [List.getElem?_append_left h1] at ej
        obtain ⟨f1, f2, f3⟩ := et j t ej
        exact ⟨f1, f2, by rw [upd_ne f2]; exact s4 _ _ f3⟩
      · subst h1
        have e2 : q = t := by simpa using ej
        subst e2
        refine ⟨?_, qD, by rw [upd_ne qD, el]; exact eq⟩
        cases z : H1 q with
        | none => rfl
        | some o => rw [s q o z] at nq; cases nq
      · rw [List.getElem?_eq_none (by rw [List.length_append, List.length_singleton]; omega)] at ej
        cases ej
  · obtain ⟨s, ts, eD, el, et⟩ := h
    exact hd H ts s eD el et
theorem pi_list_K {X : Cx} {K : PySem.W.Frag} (eK : X.K = K) {tg l : Expr} {tl : TE} (h : PE X l tl) : PI X tg l (iList K tl) := by
  subst eK
  exact pi_list h
theorem pi_zip_K {X : Cx} {K : PySem.W.Frag} (eK : X.K = K) {e e2 : Expr} {ta : TA} {p pos tpos : Pos} {elts : List Expr} {kk : Nat} (hg : Gl X "zip") (hm : X.mg "zip" = none) (ha : PA X [e, e2] ta)
    (hs : starEach [e, e2] X.env = (false, eval e X.env) :: starEach [e2] X.env := by rfl) (hpl : (backTo pos (starEach [e2] X.env)).any (·.1) = false := by rfl) :
    PI X (.Tuple elts kk tpos) (.Call (.Name "zip" p) [e, e2] [] pos) (iZip K ta) := by
  subst eK
  exact pi_zip hg hm ha hs hpl
theorem sqt_same {K : PySem.W.Frag} {H H' : Hp} {t : Addr} {xs : List V} (s : Same H H') (e : SqT K H t xs) : SqT K H' t xs := by
  rcases e with (h | ⟨o, h⟩) | h
  · exact .inl (.inl (s _ _ h))
  · exact .inl (.inr ⟨o, s _ _ h⟩)
  · exact .inr h
end Ow
namespace K1
open PySem PySem.Spec PyProof.Rows L2 Ow Tlz
theorem valG_not {β : Type} {l : List (Str × β)} {n : Str} (h : n ∉ l.map (·.1)) : valG l n = none := by
  cases e : valG l n with
  | none => rfl
  | some b => exact absurd (List.mem_map.mpr ⟨_, valG_mem e, rfl⟩) h
def contOf (R : Tb) (n : Str) : List V := match valG R n with
  | some (_, c) => c
  | none => []
def relsOf (is : List It) : List (Str × List V) := is.filterMap fun i => match i with
  | .rel n c => some (n, c)
  | _ => none
def strsOf (is : List It) : List (Str × List V) := is.filterMap fun i => match i with
  | .str n c => some (n, c)
  | _ => none
def irefs (its : List (Addr × It)) : List V := its.map fun t => .ref t.1
theorem irefs_snoc {its : List (Addr × It)} {t : Addr × It} : irefs (its ++ [t]) = irefs its ++ [.ref t.1] := by
  unfold irefs
  rw [List.map_append]
  rfl
theorem irefs_len (its : List (Addr × It)) : (irefs its).length = its.length := by unfold irefs; rw [List.length_map]
def ItsOk (K : PySem.W.Frag) (H : Hp) (its : List (Addr × It)) : Prop := ∀ t ∈ its, ItAt K H t.1 t.2
theorem ItsOk.tk {K : PySem.W.Frag} {H H' : Hp} {its : List (Addr × It)} (t : Tk K H H') (h : ItsOk K H its) : ItsOk K H' its := fun u m => (h u m).tk t
theorem ItsOk.snoc {K : PySem.W.Frag} {H : Hp} {its : List (Addr × It)} {t : Addr × It} (h : ItsOk K H its) (ht : ItAt K H t.1 t.2) : ItsOk K H (its ++ [t]) := by
  intro u m
  rcases List.mem_append.mp m with m | m
  · exact h u m
  · rw [List.mem_singleton.mp m]
    exact ht
theorem cont_eq {R : Tb} {n : Str} {q : Addr} {c : List V} (e : valG R n = some (q, c)) : contOf R n = c := by
  unfold contOf
  rw [e]
def erT (R : Tb) : List (Str × List V) := R.map fun e => (e.1, e.2.2)
theorem erT_keys (R : Tb) : (erT R).map (·.1) = R.map (·.1) := by
  unfold erT
  rw [List.map_map]
  rfl
theorem relsOf_snoc (is : List It) (i : It) : relsOf (is ++ [i]) = relsOf is ++ relsOf [i] := by unfold relsOf; rw [List.filterMap_append]
theorem strsOf_snoc (is : List It) (i : It) : strsOf (is ++ [i]) = strsOf is ++ strsOf [i] := by unfold strsOf; rw [List.filterMap_append]
theorem puts_rel {is : List It} {R S : Tb} {F : Fb} {L : List (Str × V)} (h : Puts is R F S L) : ((relsOf is).map (·.1)).Nodup → erT R = relsOf is := by
  induction h with
  | nil => intro _; rfl
  | @snoc is i R S R' S' F F' L L' _ hp ih =>
    intro nd
    rw [relsOf_snoc] at nd ⊢
    cases i with
    | rel n c =>
      obtain ⟨⟨q, e⟩, _⟩ := hp
      have nd' := nd
      rw [List.map_append, List.nodup_append] at nd'
      have e1 := ih nd'.1
      have hn : valG R n = none := valG_not fun m => by
        rw [← erT_keys, e1] at m
        exact nd'.2.2 n m n (List.mem_singleton.mpr rfl) rfl
      rw [e, putG_new _ hn, ← e1]
      unfold erT
      rw [List.map_append]
      rfl
    | fact n r row =>
      obtain ⟨_, e, _⟩ := hp
      have e0 : relsOf [It.fact n r row] = [] := rfl
      rw [e0, List.append_nil] at nd ⊢
      rw [e]
      exact ih nd
    | str n c =>
      obtain ⟨_, e, _⟩ := hp
      have e0 : relsOf [It.str n c] = [] := rfl
      rw [e0, List.append_nil] at nd ⊢
      rw [e]
      exact ih nd
    | lay n v =>
      obtain ⟨_, e, _⟩ := hp
      have e0 : relsOf [It.lay n v] = [] := rfl
      rw [e0, List.append_nil] at nd ⊢
      rw [e]
      exact ih nd
theorem puts_str {is : List It} {R S : Tb} {F : Fb} {L : List (Str × V)} (h : Puts is R F S L) : ((strsOf is).map (·.1)).Nodup → erT S = strsOf is := by
  induction h with
  | nil => intro _; rfl
  | @snoc is i R S R' S' F F' L L' _ hp ih =>
    intro nd
    rw [strsOf_snoc] at nd ⊢
    cases i with
    | str n c =>
      obtain ⟨⟨q, e⟩, _⟩ := hp
      have nd' := nd
      rw [List.map_append, List.nodup_append] at nd'
      have e1 := ih nd'.1
      have hn : valG S n = none := valG_not fun m => by
        rw [← erT_keys, e1] at m
        exact nd'.2.2 n m n (List.mem_singleton.mpr rfl) rfl
      rw [e, putG_new _ hn, ← e1]
      unfold erT
      rw [List.map_append]
      rfl
    | fact n r row =>
      obtain ⟨_, _, e, _⟩ := hp
      have e0 : strsOf [It.fact n r row] = [] := rfl
      rw [e0, List.append_nil] at nd ⊢
      rw [e]
      exact ih nd
    | rel n c =>
      obtain ⟨_, _, e, _⟩ := hp
      have e0 : strsOf [It.rel n c] = [] := rfl
      rw [e0, List.append_nil] at nd ⊢
      rw [e]
      exact ih nd
    | lay n v =>
      obtain ⟨_, _, _, e⟩ := hp
      have e0 : strsOf [It.lay n v] = [] := rfl
      rw [e0, List.append_nil] at nd ⊢
      rw [e]
      exact ih nd
def rmc : List V → Int
  | [_, .int r] => r
  | _ => 0
def szc : List V → Int
  | [_, _, .int b, .int s] => b * s
  | _ => 0
theorem roomOf_eq (R : Tb) (n : Str) : roomOf R n = rmc (contOf R n) := by
  unfold roomOf contOf
  split
  · rename_i e
    rw [e]
    rfl
  · rename_i h
    cases e : valG R n with
    | none => rfl
    | some b =>
      rw [e] at h
      show 0 = rmc b.2
      unfold rmc
      split
      · rename_i r hb
        exact absurd (show some b = some (b.1, [_, V.int r]) by rw [← hb]) (h _ _ _)
      · rfl
theorem sizeOf_eq (R : Tb) (n : Str) : sizeOf2 R n = szc (contOf R n) := by
  unfold sizeOf2 contOf
  split
  · rename_i e
    rw [e]
    rfl
  · rename_i h
    cases e : valG R n with
    | none => rfl
    | some b =>
      rw [e] at h
      show 0 = szc b.2
      unfold szc
      split
      · rename_i b1 s1 hb
        exact absurd (show some b = some (b.1, [_, _, V.int b1, V.int s1]) by rw [← hb]) (h _ _ _ _ _)
      · rfl
theorem cont_mem {R : Tb} {n : Str} {c : List V} (nd : (R.map (·.1)).Nodup) (h : (n, c) ∈ erT R) : contOf R n = c := by
  unfold erT at h
  obtain ⟨e, me, ee⟩ := List.mem_map.mp h
  have h1 : e.1 = n := congrArg Prod.fst ee
  have h2 : e.2.2 = c := congrArg Prod.snd ee
  have h3 : valG R n = some e.2 := valG_of nd (by rw [← h1]; exact me)
  unfold contOf
  rw [h3]
  exact h2
/-- the class, made with a list of items and with none -/
structure Sta (P : Program) (w : World) (K : PySem.W.Frag) (mg : Str → Option Value) (base : Heap) (C : Addr) : Prop where
  ex : ∃ (f : Addr) (fd : FuncData) (a0 : Addr) (ds : List Value), Mk K C f ∧ FnOk P w K mg base CX0 6 f fd ["self", "items"] (spInit K C) ∧ FnOk P w K mg base CX0 6 f fd ["self", "items"] (spInit0 K C) ∧
    Binds K fd ["self", "items"] [] ∧ Binds K fd ["self", "items"] ds ∧ Vals [V.ref a0] ds ∧ ∀ H : Hp, SqT K H a0 []
theorem same_make {H : Hp} {x dx C : Addr} (hx : H x = none) (hd : H dx = none) : Same H (upd (upd H dx (.own x)) x (.ins C dx [])) := fun b o e => by
  rw [upd_ne (ne_of_none e hx), upd_ne (ne_of_none e hd)]
  exact e
theorem same_made {H H' : Hp} {x dx C : Addr} (hx : H x = none) (hd : H dx = none) (g : Gw x (upd (upd H dx (.own x)) x (.ins C dx [])) H') : Same H H' := fun b o e =>
  g b o (ne_of_none e hx) (same_make hx hd b o e)
end K1
/-! what laying costs -/
namespace K1
open PySem PySem.Spec PyProof.Rows L2 Ow Tlz
def relN (S : Tb) (n : Str) : Str := match valG S n with
  | some (_, .str r :: _) => r
  | _ => ""
def layF (R S : Tb) (n : Str) : Int := roomOf R (relN S n) + sizeOf2 S n
def StrR (R S : Tb) : Prop := ∀ e ∈ S, ∃ rn v b s, e.2.2 = [.str rn, v, .int b, .int s] ∧ 0 ≤ b ∧ b ≤ 1000 ∧ rn ∈ R.map (·.1)
theorem StrR.c {R S : Tb} (h : StrR R S) : StrC S := fun e m => by
  obtain ⟨rn, v, b, s, e1, b0, b1, _⟩ := h e m
  exact ⟨_, v, b, s, e1, b0, b1⟩
structure Lay (K : PySem.W.Frag) (C : Addr) (H : Hp) (x : Addr) (R S : Tb) : Prop where
  st : ∃ dr df ds dl Z F L b, StAt K C Z H x dr df ds dl R F S L b
  rc : RelC R
  sc : StrR R S
theorem Lay.same {K : PySem.W.Frag} {C : Addr} {H H' : Hp} {x : Addr} {R S : Tb} (h : Lay K C H x R S) (s : Same H H') : Lay K C H' x R S := by
  obtain ⟨dr, df, ds, dl, Z, F, L, b, st⟩ := h.st
  exact ⟨⟨dr, df, ds, dl, Z, F, L, b, st.same s⟩, h.rc, h.sc⟩
structure Nms (K : PySem.W.Frag) (H : Hp) (a : Addr) (S : Tb) (ns : List Str) : Prop where
  at' : SqT K H a (ns.map V.str)
  len : ns.length ≤ 1000
  mem : ∀ n ∈ ns, n ∈ S.map (·.1)
theorem Nms.same {K : PySem.W.Frag} {H H' : Hp} {a : Addr} {S : Tb} {ns : List Str} (h : Nms K H a S ns) (s : Same H H') : Nms K H' a S ns := ⟨sqt_same s h.at', h.len, h.mem⟩
def stdF (R S : Tb) (ns : List Str) : Int := (ns.map (layF R S)).sum
def goF (R S : Tb) (xs ys : List Str) : Int := ((ys.filter fun n => !decide (n ∈ xs)).map (layF R S)).sum
def spLaying (K : PySem.W.Frag) (C : Addr) : Sp := fun vs H Q _ => ∃ (x : Addr) (R S : Tb) (n : Str), vs = [.ref x, .str n] ∧ Lay K C H x R S ∧ n ∈ S.map (·.1) ∧ ∀ H', Same H H' → Q (.int (layF R S n)) H'
def spStands (K : PySem.W.Frag) (C : Addr) : Sp := fun vs H Q _ => ∃ (x a : Addr) (R S : Tb) (ns : List Str), vs = [.ref x, .ref a] ∧ Lay K C H x R S ∧ Nms K H a S ns ∧ ∀ H', Same H H' → Q (.int (stdF R S ns)) H'
def spGoing (K : PySem.W.Frag) (C : Addr) : Sp := fun vs H Q _ => ∃ (x a b : Addr) (R S : Tb) (ns ms : List Str), vs = [.ref x, .ref a, .ref b] ∧ Lay K C H x R S ∧ Nms K H a S ns ∧ Nms K H b S ms ∧ ∀ H', Same H H' → Q (.int (goF R S ns ms)) H'
def spWay (K : PySem.W.Frag) (C : Addr) : Sp := fun vs H Q _ => ∃ (x a b : Addr) (R S : Tb) (ns ms : List Str), vs = [.ref x, .ref a, .ref b] ∧ Lay K C H x R S ∧ Nms K H a S ns ∧ Nms K H b S ms ∧ ∀ H', Same H H' → Q (.int (goF R S ns ms + goF R S ms ns)) H'
abbrev slaying : Stmt := topS 12
abbrev Nlaying : List Str := ["state", "structure", "relation"]
theorem sclaying : FnScope Nlaying ["state", "structure"] (defScope slaying) := ⟨rfl, rfl, rfl, by decide +kernel, rfl, by decide +kernel, by decide +kernel⟩
abbrev sstands : Stmt := topS 13
abbrev Nstands : List Str := ["state", "layout", "structure"]
theorem scstands : FnScope Nstands ["state", "layout"] (defScope sstands) := ⟨rfl, rfl, rfl, by decide +kernel, rfl, by decide +kernel, by decide +kernel⟩
abbrev sgoing : Stmt := topS 14
abbrev Ngoing : List Str := ["state", "first", "second", "structure"]
theorem scgoing : FnScope Ngoing ["state", "first", "second"] (defScope sgoing) := ⟨rfl, rfl, rfl, by decide +kernel, rfl, by decide +kernel, by decide +kernel⟩
abbrev sway : Stmt := topS 15
abbrev Nway : List Str := ["state", "first", "second"]
theorem scway : FnScope Nway ["state", "first", "second"] (defScope sway) := ⟨rfl, rfl, rfl, by decide +kernel, rfl, by decide +kernel, by decide +kernel⟩
theorem inV_str (n : Str) (xs : List Str) : inV (V.str n) (xs.map V.str) = decide (n ∈ xs) := by
  unfold inV
  rw [List.any_map]
  induction xs with
  | nil => rfl
  | cons x r ih =>
    rw [List.any_cons, ih]
    have e : ((fun y => eqV y (V.str n)) ∘ V.str) x = decide (x = n) := rfl
    rw [e]
    by_cases h : x = n
    · subst h; simp
    · have h' : ¬ n = x := fun z => h z.symm
      simp [h, h']
theorem flat_strs (xs : List Str) : (xs.map V.str).all flatV = true := by
  rw [List.all_map, List.all_eq_true]
  exact fun _ _ => rfl
theorem map_get {α β : Type} (f : α → β) (xs : List α) (d : β) : (List.range xs.length).map (fun i => (xs.map f).getD i d) = xs.map f := by
  refine List.ext_getElem? fun i => ?_
  rw [List.getElem?_map]
  rcases Nat.lt_or_ge i xs.length with z | z
  · rw [List.getElem?_range z, List.getElem?_map, List.getElem?_eq_getElem z]
    show some ((xs.map f).getD i d) = _
    rw [List.getD_eq_getElem?_getD, List.getElem?_map, List.getElem?_eq_getElem z]
    rfl
  · rw [List.getElem?_eq_none (by rw [List.length_range]; exact z), List.getElem?_eq_none (by rw [List.length_map]; exact z)]
    rfl
theorem filter_get {α β : Type} (p : α → Bool) (f : α → β) (d : β) (e : Bool) : ∀ (xs : List α), ((List.range xs.length).filter (fun i => (xs.map p).getD i e)).map (fun i => (xs.map f).getD i d) = (xs.filter p).map f := by
  intro xs
  induction xs with
  | nil => rfl
  | cons x r ih =>
    have e1 : List.range (x :: r).length = 0 :: (List.range r.length).map (· + 1) := by
      rw [List.length_cons, List.range_succ_eq_map]
    rw [e1, List.filter_cons]
    have t1 : ((List.range r.length).map (· + 1)).filter (fun i => ((x :: r).map p).getD i e) = ((List.range r.length).filter (fun i => (r.map p).getD i e)).map (· + 1) := by
      rw [List.filter_map]
      rfl
    have t2 : (((List.range r.length).filter (fun i => (r.map p).getD i e)).map (· + 1)).map (fun i => ((x :: r).map f).getD i d) = ((List.range r.length).filter (fun i => (r.map p).getD i e)).map (fun i => (r.map f).getD i d) := by
      rw [List.map_map]
      rfl
    have h0 : ((x :: r).map p).getD 0 e = p x := rfl
    rw [h0, t1]
    cases hp : p x with
    | true =>
      rw [if_pos rfl, List.map_cons, t2, ih, List.filter_cons, if_pos hp, List.map_cons]
      rfl
    | false =>
      rw [if_neg (by decide), t2, ih, List.filter_cons, if_neg (by rw [hp]; decide)]
theorem op_notIn_K {X : Cx} {K : PySem.W.Frag} (e : X.K = K) : OpR X (compareOp .NotIn) (rIn K true) := by
  subst e
  exact op_notIn_seq
section
variable {P : Program} {w : World} {K : PySem.W.Frag} {mg : Str → Option Value} {base : Heap} {C : Addr}
theorem ok_laying {f : Addr} {fd : FuncData} (F0 : Fun K "laying" "laying" slaying f fd) (X : Txt K mg C)
    (Droom_of : Kn P w K mg base 1 "room_of" ["state", "name"] (spRoomOf K C)) :
    FnOk P w K mg base CX0 2 f fd ["state", "structure"] (spLaying K C) := by
  refine F0.ok sclaying (fun vs H Q E h => ?_) (fun cdv A outer s H vs Q E hr h => ?_)
  · obtain ⟨x, R, S, n, rfl, _⟩ := h
    rfl
  · obtain ⟨x, R, S, n, rfl, ly, mn, q⟩ := h
    have hu := hu_of hr
    refine ⟨_, (pss_cons (ps_set (i := 2) sclaying.nd rfl (.inl rfl) (pe_ix ix_tup (pe_dget hu (pe_fld (pv 0) rfl) (pv 1) (fun _ _ => rfl)) pe_int (fun _ _ => rfl)))
      (pss_one (ps_ret (pe_op op_add (pe_kn Droom_of hr (pa_cons (pv 0) (pa_cons (pe_tup (pa_cons pe_str (pa_cons (pv 2) pa_nil))) pa_nil))) (pe_kn Droom_of hr (pa_cons (pv 0) (pa_cons (pe_tup (pa_cons pe_str (pa_cons (pv 1) pa_nil))) pa_nil))))))), ?_⟩
    obtain ⟨dr, df, ds, dl, Z, F, L, b, st⟩ := ly.st
    obtain ⟨dx, ob⟩ := st.ob
    obtain ⟨qa, c, ec, m⟩ := mem_val mn
    obtain ⟨rn, v, b', s', er, b0, b1, mr⟩ := ly.sc _ m
    have er' : c = [.str rn, v, .int b', .int s'] := er
    subst er'
    have ht := st.st _ m
    have e1 : relN S n = rn := by
      unfold relN
      rw [ec]
    refine ⟨_, rfl, x, C, dx, _, _, rfl, ob, X.cl, X.nS, flds_s _ _ _ _, _, rfl, ds, _, rfl, dget_n (.inl st.s) ec, qa, _, 0, .str rn, rfl, rfl, ht, at_of (j := 0) rfl rfl, ?_⟩
    refine ⟨_, rfl, _, rfl, sz 2, fun t nt => ?_⟩
    have s1 := Same.new (o := .tup [V.str "relation", .str rn]) nt
    refine ⟨x, dr, df, ds, dl, Z, R, S, F, L, b, t, (true, rn), rfl, st.same s1, ly.rc, ly.sc.c, SqT.of upd_same, ⟨fun _ => mr, (fun z => (by cases z))⟩, ?_⟩
    refine ⟨_, rfl, _, rfl, sz 2, fun u nu => ?_⟩
    have s2 := s1.trans (Same.new (o := .tup [V.str "structure", .str n]) nu)
    refine ⟨x, dr, df, ds, dl, Z, R, S, F, L, b, u, (false, n), rfl, st.same s2, ly.rc, ly.sc.c, SqT.of upd_same, ⟨(fun z => (by cases z)), fun _ => mn⟩, ?_⟩
    refine ⟨_, _, rfl, rfl, ?_⟩
    have := q _ s2
    unfold layF at this
    rw [e1] at this
    exact this
theorem ok_stands {f : Addr} {fd : FuncData} (F0 : Fun K "stands" "stands" sstands f fd) (T : Bl mg)
    (Dlaying : Kn P w K mg base 2 "laying" ["state", "structure"] (spLaying K C)) :
    FnOk P w K mg base CX0 3 f fd ["state", "layout"] (spStands K C) := by
  refine F0.ok scstands (fun vs H Q E h => ?_) (fun cdv A outer s H vs Q E hr h => ?_)
  · obtain ⟨x, a, R, S, ns, rfl, _⟩ := h
    rfl
  · obtain ⟨x, a, R, S, ns, rfl, ly, nm, q⟩ := h
    refine ⟨_, (pss_one (ps_ret (pe_callB (call_sum_K rfl rfl) (by rfl) T.sum (by decide +kernel) (pa_cons (pe_lc (own := [("structure", 2)]) (g := gName 2) (tt := tYes) rfl scstands.nd (pi_tup (pv 1)) (blkOk_by (own := [("structure", 2)]) (N := Nstands) (sc := defScope sstands) (by decide +kernel)) (fun _ _ _ _ _ => pg_name (i := 2) scstands.nd rfl (Or.inl rfl)) (fun _ _ _ _ _ => pts_nil) (fun _ _ _ _ _ => (pe_kn Dlaying hr (pa_cons (pv 0) (pa_cons (pv 2) pa_nil))))) pa_nil)))), ?_⟩
    have lns : (ns.map V.str).length = ns.length := List.length_map _
    refine ⟨_, rfl, a, rfl, ⟨_, nm.at'⟩, fun D nD => lc_mk (walk_tup (K := K) (a := a) (xs := ns.map V.str)) (fun i => (ns.map fun n => V.int (layF R S n)).getD i .non) (by rw [lns]; exact small nm.len (by decide)) nD (fun H s => (nm.same s).at') (fun i v H4 H4' N hi s4 yy fin => ?_) fun H4 s4 eD => ?_⟩
    · obtain ⟨rfl, ev⟩ := yy
      rw [List.getElem?_map] at ev
      cases en : ns[i]? with
      | none => rw [en] at ev; cases ev
      | some n =>
        rw [en] at ev
        cases ev
        refine ⟨rfl, _, rfl, _, rfl, x, R, S, n, rfl, ly.same s4, nm.mem n (List.mem_of_getElem? en), fun H5 s5 => ?_⟩
        have := fin H5 s5
        rw [List.getD_eq_getElem?_getD, List.getElem?_map, en] at this
        exact this
    · rw [lns, map_get] at eD
      have e2 : (ns.map fun n => V.int (layF R S n)) = (ns.map (layF R S)).map V.int := by rw [List.map_map]; rfl
      rw [e2] at eD
      exact ⟨D, _, rfl, SqL.of eD, q _ s4⟩
theorem ok_going {f : Addr} {fd : FuncData} (F0 : Fun K "going" "going" sgoing f fd) (T : Bl mg)
    (Dlaying : Kn P w K mg base 2 "laying" ["state", "structure"] (spLaying K C)) :
    FnOk P w K mg base CX0 3 f fd ["state", "first", "second"] (spGoing K C) := by
  refine F0.ok scgoing (fun vs H Q E h => ?_) (fun cdv A outer s H vs Q E hr h => ?_)
  · obtain ⟨x, a, b, R, S, ns, ms, rfl, _⟩ := h
    rfl
  · obtain ⟨x, a, b, R, S, ns, ms, rfl, ly, nm, nm2, q⟩ := h
    refine ⟨_, (pss_one (ps_ret (pe_callB (call_sum_K rfl rfl) (by rfl) T.sum (by decide +kernel) (pa_cons (pe_lc (own := [("structure", 3)]) (g := gName 3) rfl scgoing.nd (pi_tup (pv 2)) (blkOk_by (own := [("structure", 3)]) (N := Ngoing) (sc := defScope sgoing) (by decide +kernel)) (fun _ _ _ _ _ => pg_name (i := 3) scgoing.nd rfl (Or.inl rfl)) (fun _ _ _ _ _ => (pts_one (pt_cmpR (op_notIn_K (K := K) rfl) (pv 3) (pv 1) (by rfl)))) (fun _ _ _ _ _ => (pe_kn Dlaying hr (pa_cons (pv 0) (pa_cons (pv 3) pa_nil))))) pa_nil)))), ?_⟩
    have lns : (ms.map V.str).length = ms.length := List.length_map _
    refine ⟨_, rfl, b, rfl, ⟨_, nm2.at'⟩, fun D nD => lc_fl (walk_tup (K := K) (a := b) (xs := ms.map V.str)) (fun i => (ms.map fun n => !decide (n ∈ ns)).getD i false) (fun i => (ms.map fun n => V.int (layF R S n)).getD i .non) (by rw [lns]; exact small nm2.len (by decide)) nD (fun H s => (nm2.same s).at') (fun i v H4 H4' N M hi s4 yy fin fin2 => ?_) fun H4 s4 eD => ?_⟩
    · obtain ⟨rfl, ev⟩ := yy
      rw [List.getElem?_map] at ev
      cases en : ms[i]? with
      | none => rw [en] at ev; cases ev
      | some n =>
        rw [en] at ev
        cases ev
        have ep : (ms.map fun n => !decide (n ∈ ns)).getD i false = !decide (n ∈ ns) := by
          rw [List.getD_eq_getElem?_getD, List.getElem?_map, en]
          rfl
        refine ⟨rfl, _, rfl, _, rfl, a, _, rfl, .inr (nm.same s4).at', rfl, flat_strs ns, ?_⟩
        rw [inV_str, if_pos rfl]
        rw [ep] at fin fin2
        refine ⟨_, rfl, ite2 (fun e => ?_) (fun e => ?_)⟩
        · refine ⟨_, rfl, _, rfl, x, R, S, n, rfl, ly.same s4, nm2.mem n (List.mem_of_getElem? en), fun H5 s5 => ?_⟩
          have := fin e H5 s5
          rw [List.getD_eq_getElem?_getD, List.getElem?_map, en] at this
          exact this
        · exact fin2 (Bool.eq_false_iff.mpr e) _ (Same.refl _)
    · rw [lns, filter_get] at eD
      have e2 : ((ms.filter fun n => !decide (n ∈ ns)).map fun n => V.int (layF R S n)) = ((ms.filter fun n => !decide (n ∈ ns)).map (layF R S)).map V.int := by rw [List.map_map]; rfl
      rw [e2] at eD
      exact ⟨D, _, rfl, SqL.of eD, q _ s4⟩
theorem ok_way {f : Addr} {fd : FuncData} (F0 : Fun K "way" "way" sway f fd)
    (Dgoing : Kn P w K mg base 3 "going" ["state", "first", "second"] (spGoing K C)) :
    FnOk P w K mg base CX0 4 f fd ["state", "first", "second"] (spWay K C) := by
  refine F0.ok scway (fun vs H Q E h => ?_) (fun cdv A outer s H vs Q E hr h => ?_)
  · obtain ⟨x, a, b, R, S, ns, ms, rfl, _⟩ := h
    rfl
  · obtain ⟨x, a, b, R, S, ns, ms, rfl, ly, nm, nm2, q⟩ := h
    refine ⟨_, (pss_one (ps_ret (pe_op op_add (pe_kn Dgoing hr (pa_cons (pv 0) (pa_cons (pv 1) (pa_cons (pv 2) pa_nil)))) (pe_kn Dgoing hr (pa_cons (pv 0) (pa_cons (pv 2) (pa_cons (pv 1) pa_nil))))))), ?_⟩
    refine ⟨_, rfl, _, rfl, _, rfl, x, a, b, R, S, ns, ms, rfl, ly, nm, nm2, fun H1 s1 => ?_⟩
    refine ⟨_, rfl, _, rfl, _, rfl, x, b, a, R, S, ms, ns, rfl, ly.same s1, nm2.same s1, nm.same s1, fun H2 s2 => ?_⟩
    exact ⟨_, _, rfl, rfl, q _ (s1.trans s2)⟩
end
end K1
/-! what is drawn -/
namespace K1
open PySem PySem.Spec PyProof.Rows L2 Ow Tlz
def gI (xs : List Int) (i : Nat) : Int := xs.getD i 0
theorem gI_at {xs : List Int} {i : Nat} {v : Int} (h : xs[i]? = some v) : gI xs i = v := by unfold gI; rw [List.getD_eq_getElem?_getD, h]; rfl
theorem at_gI {xs : List Int} {i : Nat} (h : i < xs.length) : xs[i]? = some (gI xs i) := by
  rw [List.getElem?_eq_getElem h]
  exact congrArg some (gI_at (List.getElem?_eq_getElem h)).symm
theorem li_at {xs : List Int} {i : Nat} (h : i < xs.length) : (xs.map V.int)[i]? = some (V.int (gI xs i)) := by rw [List.getElem?_map, at_gI h]; rfl
/-- a list of lists of ints, none of which is av -/
def itD : Nat → Int → Int
  | 0, c => c
  | n + 1, c => itD n (c / 100003)
theorem itD_succ (n : Nat) (c : Int) : itD (n + 1) c = itD n c / 100003 := by
  induction n generalizing c with
  | zero => rfl
  | succ n ih => exact ih (c / 100003)
def drawF (ns : List Int) (k : Nat) : Int :=
  if ns.length = 0 then (k : Int) * 5 % 7 else
  if gI ns (k % ns.length) ≥ 1000000000000000000 then itD (min (k / ns.length) 60) (gI ns (k % ns.length)) % 100003
  else (gI ns (k % ns.length) * 48271 + (k : Int) * 69621 + 13) % 2147483647 * 16807 % 2147483629
theorem drawF_nn (ns : List Int) (k : Nat) : 0 ≤ drawF ns k := by
  unfold drawF
  split
  · omega
  · split
    · exact Int.emod_nonneg _ (by decide)
    · exact Int.emod_nonneg _ (by decide)
theorem min60 (t : Nat) : (if (60 : Int) < ((t : Nat) : Int) then (60 : Int) else ((t : Nat) : Int)).toNat = min t 60 := by rw [Nat.min_def]; split <;> split <;> omega
theorem min60b {t : Nat} (h : t ≤ 100000) : -(2 ^ 62) ≤ (if (60 : Int) < ((t : Nat) : Int) then (60 : Int) else ((t : Nat) : Int)) ∧ (if (60 : Int) < ((t : Nat) : Int) then (60 : Int) else ((t : Nat) : Int)) < 2 ^ 62 := by
  split <;> constructor <;> omega
abbrev s_law_draw : Stmt := topS 17
abbrev N_law_draw : List Str := ["script", "k", "cell", "turn", "step"]
theorem sc_law_draw : FnScope N_law_draw ["script", "k"] (defScope s_law_draw) := ⟨rfl, rfl, rfl, by decide +kernel, rfl, by decide +kernel, by decide +kernel⟩
def spDraw (K : PySem.W.Frag) : Sp := fun vs H Q _ => ∃ (a : Addr) (ns : List Int) (k : Nat), vs = [.ref a, .int (k : Nat)] ∧ SqL K H a (ns.map V.int) ∧ ns.length ≤ 63 ∧ k ≤ 100000 ∧ Q (.int (drawF ns k)) H
def spLValue : Sp := fun vs H Q _ => ∃ d : Int, vs = [.int d] ∧ ∀ v, Scal v → Q v H
def N4 : List Str := ["s", "t", "u", "w"]
def spLayout (K : PySem.W.Frag) : Sp := fun vs H Q _ => ∃ d : Int, vs = [.int d] ∧ ∀ (H' : Hp) (l : Addr) (xs : List Str), Same H H' → H l = none → SqT K H' l (xs.map V.str) → xs.Nodup → xs.length ≤ 4 → (∀ n ∈ xs, n ∈ N4) → Q (.ref l) H'
abbrev s_law_value : Stmt := topS 18
abbrev N_law_value : List Str := ["number"]
theorem sc_law_value : FnScope N_law_value ["number"] (defScope s_law_value) := ⟨rfl, rfl, rfl, by decide +kernel, rfl, by decide +kernel, by decide +kernel⟩
abbrev s_law_layout : Stmt := topS 21
abbrev N_law_layout : List Str := ["number", "names", "name"]
theorem sc_law_layout : FnScope N_law_layout ["number"] (defScope s_law_layout) := ⟨rfl, rfl, rfl, by decide +kernel, rfl, by decide +kernel, by decide +kernel⟩
theorem txt_sc (i : Int) (h0 : 0 ≤ i) (h1 : i < 5) : Scal (.str (("t" : Str) ++ (toString i : String))) ∧ ("t" : Str).length + (Str.ofString (toString i)).length ≤ sizeLine := by
  have : i = 0 ∨ i = 1 ∨ i = 2 ∨ i = 3 ∨ i = 4 := by omega
  rcases this with rfl | rfl | rfl | rfl | rfl <;> exact ⟨.inr ⟨_, rfl, by decide +kernel, by decide +kernel⟩, by decide +kernel⟩
def sgn (n : Str) : Int := (n.cps.getD 0 0 : Nat)
def pickF (d : Int) (n : Str) : Bool := decide (d / (4 * (1 + sgn n - 115)) % 2 = 0)
theorem rotV (d : Int) : ∃ ys : List Str, cutV (N4.map V.str) (some (d % 4)) none ++ cutV (N4.map V.str) none (some (d % 4)) = ys.map V.str ∧ ys.Nodup ∧ ys.length ≤ 4 ∧ ∀ n ∈ ys, n ∈ N4 := by
  have : d % 4 = 0 ∨ d % 4 = 1 ∨ d % 4 = 2 ∨ d % 4 = 3 := by omega
  rcases this with z | z | z | z <;> rw [z]
  · exact ⟨["s", "t", "u", "w"], by decide +kernel, by decide +kernel, by decide, by decide +kernel⟩
  · exact ⟨["t", "u", "w", "s"], by decide +kernel, by decide +kernel, by decide, by decide +kernel⟩
  · exact ⟨["u", "w", "s", "t"], by decide +kernel, by decide +kernel, by decide, by decide +kernel⟩
  · exact ⟨["w", "s", "t", "u"], by decide +kernel, by decide +kernel, by decide, by decide +kernel⟩
theorem N4_len : ∀ n ∈ N4, n.length = 1 ∧ 115 ≤ sgn n ∧ sgn n ≤ 119 := by decide +kernel
section
variable {P : Program} {w : World} {K : PySem.W.Frag} {mg : Str → Option Value} {base : Heap}
theorem ok_draw {f : Addr} {fd : FuncData} (F : Fun K "_law_draw" "_law_draw" s_law_draw f fd) (T : Bl mg) :
    FnOk P w K mg base CX0 1 f fd ["script", "k"] (spDraw K) := by
  refine F.ok sc_law_draw (fun vs H Q E h => ?_) (fun cdv A outer s H vs Q E hr h => ?_)
  · obtain ⟨a, ns, k, rfl, _⟩ := h
    rfl
  · obtain ⟨a, ns, k, rfl, hs, hl, hk, q⟩ := h
    refine ⟨_, (pss_cons (ps_if (pt_not (pt_truth (pv 0) (fun _ => rfl))) (pss_one (ps_ret (pe_op op_mod (pe_op op_mul (pv 1) pe_int) pe_int))) pss_nil)
      (pss_cons (ps_set (i := 2) sc_law_draw.nd rfl (.inl rfl) (pe_callTy call_int1 (by rfl) T.int (by decide +kernel) (pa_cons (pe_ix ix_list (pv 0) (pe_op op_mod (pv 1) (pe_callB call_len_seq (by rfl) T.len PySem.boot_len (pa_cons (pv 0) pa_nil))) (fun _ _ => rfl)) pa_nil)))
      (pss_cons (ps_set (i := 3) sc_law_draw.nd rfl (.inl rfl) (pe_op op_fdiv (pv 1) (pe_callB call_len_seq (by rfl) T.len PySem.boot_len (pa_cons (pv 0) pa_nil))))
      (pss_cons (ps_if (pt_cmpR op_ge (pv 2) pe_int (nomark _)) (pss_cons (ps_for PassesOwn.never rfl (pi_range1 (by rfl) T.range (pa_cons (pe_callB (call_min2 rfl) (by rfl) T.min (by decide +kernel) (pa_cons (pv 3) (pa_cons pe_int pa_nil))) pa_nil)) (pg_name (i := 4) sc_law_draw.nd rfl (.inl rfl)) (pss_one (ps_set (i := 2) sc_law_draw.nd rfl (.inl rfl) (pe_op op_fdiv (pv 2) pe_int))))
      (pss_one (ps_ret (pe_op op_mod (pv 2) pe_int)))) pss_nil)
      (pss_one (ps_ret (pe_op op_mod (pe_op op_mul (pe_op op_mod (pe_op op_add (pe_op op_add (pe_op op_mul (pv 2) pe_int) (pe_op op_mul (pv 1) pe_int)) pe_int) pe_int) pe_int) pe_int))))))), ?_⟩
    refine ⟨_, rfl, _, .inl ⟨_, hs, rfl⟩, ?_⟩
    by_cases hz : ns.length = 0
    · have e0 : ns = [] := List.length_eq_zero_iff.mp hz
      subst e0
      refine iteT ?_
      refine ⟨_, rfl, _, 5, rfl, rfl, .inr ⟨by decide, by decide⟩, _, _, rfl, rfl, (by show (0 : Int) < 7; decide), ?_⟩
      unfold drawF at q
      rw [if_pos hz] at q
      exact q
    · have e0 : (ns.map V.int).isEmpty = false := by
        cases ns with
        | nil => exact absurd rfl hz
        | cons a r => rfl
      rw [e0]
      refine iteF ?_
      have pos : 0 < ns.length := Nat.pos_of_ne_zero hz
      have hm : k % ns.length < ns.length := Nat.mod_lt _ pos
      have cl : ((ns.map V.int).length : Int) = (ns.length : Int) := by rw [List.length_map]
      -- cell, turn
      refine ⟨_, rfl, _, rfl, _, rfl, a, _, rfl, .inl hs, _, _, rfl, rfl, (by show (0 : Int) < ((ns.map V.int).length : Int); rw [cl]; omega), a, _, _, V.int (gI ns (k % ns.length)), rfl, rfl, hs, ?_, .inl ⟨_, rfl, ?_⟩⟩
      · have := atI_nat (li_at hm)
        rw [show ((k : Int) % ((ns.map V.int).length : Int)) = ((k % ns.length : Nat) : Int) by rw [cl]; rfl]
        exact this
      refine ⟨_, rfl, _, rfl, a, _, rfl, .inl hs, _, _, rfl, rfl, ⟨by show (0 : Int) < ((ns.map V.int).length : Int); rw [cl]; omega, by show ((ns.map V.int).length : Int) < _; rw [cl]; omega⟩, ?_⟩
      have et : ((k : Int) / ((ns.map V.int).length : Int)) = ((k / ns.length : Nat) : Int) := by rw [cl]; rfl
      show gName 3 (V.int ((k : Int) / ((ns.map V.int).length : Int))) _ _ _
      rw [et]
      refine ⟨_, rfl, _, _, rfl, rfl, _, rfl, ?_⟩
      unfold drawF at q
      rw [if_neg hz] at q
      refine ite2 (fun hb => ?_) (fun hb => ?_)
      · have hb' := of_decide_eq_true hb
        rw [if_pos hb'] at q
        have ub : k / ns.length ≤ k := Nat.div_le_self _ _
        have ej := min60 (k / ns.length)
        have jb := min60b (show k / ns.length ≤ 100000 by omega)
        refine ⟨_, rfl, _, _, rfl, _, rfl, jb.1, jb.2, ?_⟩
        rw [ej]
        refine for_range (lo := 0) (fun i σ H' => ∃ v4, σ = [some (.ref a), some (.int (k : Nat)), some (.int (itD i (gI ns (k % ns.length)))), some (.int ((k / ns.length : Nat) : Int)), v4] ∧ H' = H) ⟨none, rfl, rfl⟩ ?_ ?_
        · rintro i σ H' hi ⟨v4, rfl, rfl⟩
          refine ⟨_, rfl, _, _, rfl, rfl, ⟨by decide, by decide⟩, some (.int (0 + (i : Int))), ?_, rfl⟩
          rw [itD_succ]
          rfl
        · rintro σ H' ⟨v4, rfl, rfl⟩
          exact ⟨_, rfl, _, _, rfl, rfl, (by show (0 : Int) < 100003; decide), q⟩
      · have hb' : ¬ _ := fun z => hb (decide_eq_true z)
        rw [if_neg hb'] at q
        refine ⟨_, rfl, _, 48271, rfl, rfl, .inr ⟨by decide, by decide⟩, _, rfl, _, 69621, rfl, rfl, .inr ⟨by decide, by decide⟩, _, _, rfl, rfl, _, _, rfl, rfl, _, _, rfl, rfl, (by show (0 : Int) < 2147483647; decide), _, _, rfl, rfl, .inr ⟨by decide, by decide⟩, _, _, rfl, rfl, (by show (0 : Int) < 2147483629; decide), q⟩
theorem ok_lvalue {f : Addr} {fd : FuncData} (F : Fun K "_law_value" "_law_value" s_law_value f fd) (T : Bl mg) :
    FnOk P w K mg base CX0 1 f fd ["number"] spLValue := by
  refine F.ok sc_law_value (fun vs H Q E h => ?_) (fun cdv A outer s H vs Q E hr h => ?_)
  · obtain ⟨d, rfl, _⟩ := h
    rfl
  · obtain ⟨d, rfl, q⟩ := h
    refine ⟨_, (pss_cons (ps_if (pt_cmpR op_eq (pe_op op_mod (pv 0) pe_int) pe_int (nomark _)) (pss_one (ps_ret (pe_op op_add_str pe_str (pe_callTy call_str_int (by rfl) T.str (by decide +kernel) (pa_cons (pe_op op_mod (pe_op op_fdiv (pv 0) pe_int) pe_int) pa_nil))))) pss_nil)
      (pss_one (ps_ret (pe_op op_sub (pe_op op_mod (pe_op op_fdiv (pv 0) pe_int) pe_int) pe_int)))), ?_⟩
    refine ⟨_, rfl, _, _, rfl, rfl, (by show (0 : Int) < 4; decide), rfl, _, rfl, ite2 (fun _ => ?_) (fun _ => ?_)⟩
    · have h0 := Int.emod_nonneg (d / 4) (show (5 : Int) ≠ 0 by decide)
      have h1 := Int.emod_lt_of_pos (d / 4) (show (0 : Int) < 5 by decide)
      have hh := txt_sc _ h0 h1
      refine ⟨_, rfl, _, _, rfl, rfl, ⟨by decide, by decide⟩, _, _, rfl, rfl, (by show (0 : Int) < 5; decide), _, rfl, ?_, _, _, rfl, rfl, hh.2, q _ hh.1⟩
      have : (d / 4 % 5).natAbs < 5 := by omega
      exact Nat.lt_of_le_of_lt (Nat.log2_le_self _) (by omega)
    · refine ⟨_, rfl, _, _, rfl, rfl, ⟨by decide, by decide⟩, _, _, rfl, rfl, (by show (0 : Int) < 7; decide), _, _, rfl, rfl, q _ (.inl ⟨_, rfl, ?_⟩)⟩
      have h0 := Int.emod_nonneg (d / 4) (show (7 : Int) ≠ 0 by decide)
      have h1 := Int.emod_lt_of_pos (d / 4) (show (0 : Int) < 7 by decide)
      exact Nat.lt_of_lt_of_le (show (d / 4 % 7 - 2).natAbs < 8 by omega) (by decide)
theorem ok_layout {f : Addr} {fd : FuncData} (F : Fun K "_law_layout" "_law_layout" s_law_layout f fd) (T : Bl mg) :
    FnOk P w K mg base CX0 1 f fd ["number"] (spLayout K) := by
  refine F.ok sc_law_layout (fun vs H Q E h => ?_) (fun cdv A outer s H vs Q E hr h => ?_)
  · obtain ⟨d, rfl, _⟩ := h
    rfl
  · obtain ⟨d, rfl, q⟩ := h
    refine ⟨_, (pss_cons (ps_set (i := 1) sc_law_layout.nd rfl (.inl rfl) (pe_lst (pa_cons pe_str (pa_cons pe_str (pa_cons pe_str (pa_cons pe_str pa_nil))))))
      (pss_cons (ps_set (i := 1) sc_law_layout.nd rfl (.inl rfl) (pe_op op_cat (pe_slice sl_list (pv 1) (po_some (pe_op op_mod (pv 0) pe_int)) po_none) (pe_slice sl_list (pv 1) po_none (po_some (pe_op op_mod (pv 0) pe_int)))))
      (pss_one (ps_ret (pe_callTy call_tuple_of (by rfl) T.tuple (by decide +kernel) (pa_cons (pe_lc (own := [("name", 2)]) (g := gName 2) rfl sc_law_layout.nd (pi_list (pv 1)) (blkOk_by (own := [("name", 2)]) (N := N_law_layout) (sc := defScope s_law_layout) (by decide +kernel)) (fun _ _ _ _ _ => pg_name (i := 2) sc_law_layout.nd rfl (Or.inl rfl)) (fun _ _ _ _ _ => (pts_one (pt_cmpR op_eq (pe_op op_mod (pe_op op_fdiv (pv 0) (pe_op op_mul pe_int (pe_op op_sub (pe_op op_add pe_int (pe_callB call_ord (by rfl) T.ord (by decide +kernel) (pa_cons (pv 2) pa_nil))) pe_int))) pe_int) pe_int (nomark _)))) (fun _ _ _ _ _ => (pv 2))) pa_nil)))))), ?_⟩
    refine ⟨sz 4, fun p np => ?_⟩
    have s1 := Same.new (o := .lst [V.str "s", .str "t", .str "u", .str "w"]) np
    have e1 : (upd H p (.lst [V.str "s", .str "t", .str "u", .str "w"])) p = some (.lst (N4.map V.str)) := upd_same
    generalize (upd H p (.lst [V.str "s", .str "t", .str "u", .str "w"])) = H1 at *
    refine ⟨_, rfl, _, rfl, _, _, rfl, rfl, (by show (0 : Int) < 4; decide), _, rfl, p, _, rfl, SqL.of e1, fun p2 np2 => ?_⟩
    have s2 := Same.new (o := .lst (cutV (N4.map V.str) (some (d % 4)) none)) np2
    have e2 := upd_same (H := H1) (a := p2) (o := .lst (cutV (N4.map V.str) (some (d % 4)) none))
    generalize (upd H1 p2 (.lst (cutV (N4.map V.str) (some (d % 4)) none))) = H2 at *
    refine ⟨_, rfl, _, rfl, _, _, rfl, rfl, (by show (0 : Int) < 4; decide), _, rfl, p, _, rfl, SqL.of (s2 _ _ e1), fun p3 np3 => ?_⟩
    have s3 := Same.new (o := .lst (cutV (N4.map V.str) none (some (d % 4)))) np3
    have e3 := upd_same (H := H2) (a := p3) (o := .lst (cutV (N4.map V.str) none (some (d % 4))))
    generalize (upd H2 p3 (.lst (cutV (N4.map V.str) none (some (d % 4))))) = H3 at *
    obtain ⟨ys, ey, nd, ly, my⟩ := rotV d
    have lcat := congrArg List.length ey
    rw [List.length_append, List.length_map] at lcat
    refine ⟨p2, p3, _, _, rfl, rfl, s3 _ _ e2, e3, by rw [lcat]; exact sz ys.length (by omega), fun p4 np4 => ?_⟩
    rw [ey]
    have s4 := Same.new (o := .lst (ys.map V.str)) np4
    have e4 := upd_same (H := H3) (a := p4) (o := .lst (ys.map V.str))
    generalize (upd H3 p4 (.lst (ys.map V.str))) = H4 at *
    have s14 := ((s1.trans s2).trans s3).trans s4
    have lys : (ys.map V.str).length = ys.length := List.length_map _
    refine ⟨_, rfl, p4, rfl, ⟨_, SqL.of e4⟩, fun D nD => lc_fl (walk_list (K := K) (a := p4) (xs := ys.map V.str)) (fun i => (ys.map (pickF d)).getD i false) (fun i => (ys.map V.str).getD i .non) (by rw [lys]; exact small (show ys.length ≤ 1000 by omega) (by decide)) nD (fun H s => SqL.of (s _ _ e4)) (fun i v H5 H5' N M hi s5 yy fin fin2 => ?_) fun H5 s5 eD => ?_⟩
    · obtain ⟨rfl, ev⟩ := yy
      rw [List.getElem?_map] at ev
      cases en : ys[i]? with
      | none => rw [en] at ev; cases ev
      | some n =>
        rw [en] at ev
        cases ev
        have hn := N4_len n (my n (List.mem_of_getElem? en))
        have ep : (ys.map (pickF d)).getD i false = pickF d n := by
          rw [List.getD_eq_getElem?_getD, List.getElem?_map, en]
          rfl
        have ew : (ys.map V.str).getD i .non = V.str n := by
          rw [List.getD_eq_getElem?_getD, List.getElem?_map, en]
          rfl
        rw [ep] at fin fin2
        rw [ew] at fin
        have hs : ((n.cps.getD 0 0 : Nat) : Int) = sgn n := rfl
        refine ⟨rfl, _, rfl, _, rfl, n, rfl, hn.1, _, _, rfl, rfl, _, _, rfl, rfl, _, _, rfl, rfl, .inl ⟨by decide, by decide⟩, _, _, rfl, rfl, ⟨?_, ?_⟩, _, _, rfl, rfl, (by show (0 : Int) < 2; decide), rfl, _, rfl, ?_⟩
        · rw [hs]; omega
        · rw [hs]
          exact Int.lt_of_lt_of_le (show 4 * (1 + sgn n - 115) < 100 by omega) (by decide)
        · refine ite2 (fun e => ?_) (fun e => ?_)
          · exact ⟨_, rfl, fin (decide_eq_true (V.int.inj (of_decide_eq_true e))) _ (Same.refl _)⟩
          · exact fin2 (Bool.eq_false_iff.mpr fun z => e (decide_eq_true (congrArg V.int (of_decide_eq_true z)))) _ (Same.refl _)
    · rw [lys, filter_get] at eD
      refine ⟨D, _, rfl, .inl ⟨SqL.of eD, fun l nl => ?_⟩⟩
      exact q _ l (ys.filter (pickF d)) ((s14.trans s5).trans (Same.new nl)) (s14.trans s5 |>.free nl) (SqT.of upd_same) (nd.filter _) (Nat.le_trans (List.length_filter_le _ _) ly) fun n m => my n (List.mem_filter.mp m).1
end
end K1
/-! the state of the law -/
namespace K1
open PySem PySem.Spec PyProof.Rows L2 Ow Tlz
abbrev s_law_state : Stmt := topS 19
abbrev N_law_state : List Str := ["script", "start", "items", "k", "number", "buckets", "layouts"]
theorem sc_law_state : FnScope N_law_state ["script", "start"] (defScope s_law_state) := ⟨rfl, rfl, rfl, by decide +kernel, rfl, by decide +kernel, by decide +kernel⟩
/-- a list of items under way -/
structure Itm (K : PySem.W.Frag) (H0 H : Hp) (p : Addr) (n : Nat) (rs ss : List (Str × List V)) : Prop where
  same : Same H0 H
  nw : H0 p = none
  ex : ∃ its : List (Addr × It), H p = some (.lst (irefs its)) ∧ ItsOk K H its ∧ its.length ≤ n ∧ relsOf (its.map (·.2)) = rs ∧ strsOf (its.map (·.2)) = ss
theorem Itm.other {K : PySem.W.Frag} {H0 H H' : Hp} {p : Addr} {n : Nat} {rs ss : List (Str × List V)} (h : Itm K H0 H p n rs ss) (s : Same H H') : Itm K H0 H' p n rs ss := by
  obtain ⟨its, e, ok, l, r1, s1⟩ := h.ex
  exact ⟨h.same.trans s, h.nw, its, s _ _ e, ok.tk (Tk.same s), l, r1, s1⟩
theorem Itm.push {K : PySem.W.Frag} {H0 H : Hp} {p a : Addr} {n m : Nat} {rs ss : List (Str × List V)} {i : It} (h : Itm K H0 H p n rs ss) (hi : ItAt K H a i) (hm : n + 1 ≤ m) (hb : m ≤ 1000) :
    ∃ xs, H p = some (.lst xs) ∧ xs.length < sizeLine ∧ Itm K H0 (upd H p (.lst (xs ++ [.ref a]))) p m (rs ++ relsOf [i]) (ss ++ strsOf [i]) := by
  obtain ⟨its, e, ok, l, r1, s1⟩ := h.ex
  have tE : Tk K H (upd H p (.lst (irefs its ++ [.ref a]))) := Tk.put e
  refine ⟨irefs its, e, by rw [irefs_len]; exact small (m := 1000) (by omega) (by decide), Same.over h.same h.nw, h.nw, its ++ [(a, i)], by rw [upd_same, irefs_snoc], (ok.tk tE).snoc (t := (a, i)) (hi.tk tE), by rw [List.length_append, List.length_singleton]; omega, ?_, ?_⟩
  · rw [List.map_append, ← r1]
    exact relsOf_snoc _ _
  · rw [List.map_append, ← s1]
    exact strsOf_snoc _ _
theorem Itm.lay {K : PySem.W.Frag} {H0 H : Hp} {p u la : Addr} {ol : HO} {n m : Nat} {rs ss : List (Str × List V)} {nm : Str} {v : V} (h : Itm K H0 H p n rs ss) (nu : H u = none) (el : H la = some ol) (ne : la ≠ p) (hm : n + 1 ≤ m) (hb : m ≤ 1000) :
    ∃ xs, (upd H u (.tup [.str "layout", .str nm, v])) p = some (.lst xs) ∧ xs.length < sizeLine ∧ (upd (upd H u (.tup [.str "layout", .str nm, v])) p (.lst (xs ++ [.ref u]))) la = some ol ∧
      Itm K H0 (upd (upd H u (.tup [.str "layout", .str nm, v])) p (.lst (xs ++ [.ref u]))) p m rs ss := by
  have s1 := Same.new (o := .tup [.str "layout", .str nm, v]) nu
  obtain ⟨xs, ex, lx, m3⟩ := (h.other s1).push (a := u) (i := .lay nm v) (m := m) (SqT.of upd_same) hm hb
  have r0 : relsOf [It.lay nm v] = [] := rfl
  have t0 : strsOf [It.lay nm v] = [] := rfl
  rw [r0, t0, List.append_nil, List.append_nil] at m3
  exact ⟨xs, ex, lx, by rw [upd_ne ne]; exact s1 _ _ el, m3⟩
def StateF (R S : Tb) : Prop := ∀ n ∈ N4, n ∈ S.map (·.1) ∧ layF R S n = 20 + sizeOf2 S n ∧ 0 ≤ sizeOf2 S n
def spState (K : PySem.W.Frag) (C : Addr) : Sp := fun vs H Q _ => ∃ (a : Addr) (ns : List Int), vs = [.ref a, .int 0] ∧ SqL K H a (ns.map V.int) ∧ ns.length ≤ 63 ∧
  ∀ (x : Addr) (R S : Tb) H', Same H H' → Lay K C H' x R S → StateF R S → Q (.ref x) H'
theorem lay_sc (i : Int) (h0 : 0 ≤ i) (h1 : i < 6) : ("l" : Str).length + (Str.ofString (toString i)).length ≤ sizeLine := by
  have : i = 0 ∨ i = 1 ∨ i = 2 ∨ i = 3 ∨ i = 4 ∨ i = 5 := by omega
  rcases this with rfl | rfl | rfl | rfl | rfl | rfl <;> decide +kernel
def relc : List V → Str
  | .str r :: _ => r
  | _ => ""
theorem relN_eq (S : Tb) (n : Str) : relN S n = relc (contOf S n) := by
  unfold relN contOf
  cases e : valG S n with
  | none => rfl
  | some b =>
    obtain ⟨q, c⟩ := b
    cases c with
    | nil => rfl
    | cons v r => cases v <;> rfl
theorem stF_of {R S : Tb} {c1 c2 a1 a2 a3 a4 : V} {b0 b1 b2 : Int} (er : erT R = ([("p", [c1, .int 20]), ("q", [c2, .int 20])] : List (Str × List V)))
    (es : erT S = ([("s", [.str "p", a1, .int b0, .int 8]), ("t", [.str "p", a2, .int b1, .int 8]), ("u", [.str "p", a3, .int b2, .int 8]), ("w", [.str "q", a4, .int 2, .int 8])] : List (Str × List V)))
    (h0 : 0 ≤ b0 ∧ b0 ≤ 1000) (h1 : 0 ≤ b1 ∧ b1 ≤ 1000) (h2 : 0 ≤ b2 ∧ b2 ≤ 1000) : RelC R ∧ StrR R S ∧ StateF R S := by
  have kR : R.map (·.1) = (["p", "q"] : List Str) := by rw [← erT_keys, er]; rfl
  have kS : S.map (·.1) = (["s", "t", "u", "w"] : List Str) := by rw [← erT_keys, es]; rfl
  have nR : (R.map (·.1)).Nodup := by rw [kR]; decide +kernel
  have nS : (S.map (·.1)).Nodup := by rw [kS]; decide +kernel
  have rp : roomOf R "p" = 20 := by
    rw [roomOf_eq, cont_mem (c := [c1, .int 20]) nR (by rw [er]; exact List.mem_cons_self)]
    rfl
  have rq : roomOf R "q" = 20 := by
    rw [roomOf_eq, cont_mem (c := [c2, .int 20]) nR (by rw [er]; exact List.mem_cons_of_mem _ List.mem_cons_self)]
    rfl
  refine ⟨fun e m => ?_, fun e m => ?_, fun n m => ?_⟩
  · have m1 : (e.1, e.2.2) ∈ erT R := List.mem_map.mpr ⟨e, m, rfl⟩
    rw [er] at m1
    rcases List.mem_cons.mp m1 with z | m1
    · exact ⟨_, _, congrArg Prod.snd z⟩
    · rw [List.mem_singleton] at m1
      exact ⟨_, _, congrArg Prod.snd m1⟩
  · have m1 : (e.1, e.2.2) ∈ erT S := List.mem_map.mpr ⟨e, m, rfl⟩
    rw [es] at m1
    rw [kR]
    rcases List.mem_cons.mp m1 with z | m1
    · exact ⟨_, _, _, _, congrArg Prod.snd z, h0.1, h0.2, by decide +kernel⟩
    rcases List.mem_cons.mp m1 with z | m1
    · exact ⟨_, _, _, _, congrArg Prod.snd z, h1.1, h1.2, by decide +kernel⟩
    rcases List.mem_cons.mp m1 with z | m1
    · exact ⟨_, _, _, _, congrArg Prod.snd z, h2.1, h2.2, by decide +kernel⟩
    · rw [List.mem_singleton] at m1
      exact ⟨_, _, _, _, congrArg Prod.snd m1, by decide, by decide, by decide +kernel⟩
  · have fin : ∀ {c : List V} {b : Int} {rn : Str}, contOf S n = c → relc c = rn → roomOf R rn = 20 → szc c = b * 8 → 0 ≤ b → layF R S n = 20 + sizeOf2 S n ∧ 0 ≤ sizeOf2 S n := fun hc hr h20 hb h0 => by
      unfold layF
      rw [relN_eq, sizeOf_eq, hc, hr, h20, hb]
      exact ⟨rfl, by omega⟩
    refine ⟨by rw [kS]; exact m, ?_⟩
    rcases List.mem_cons.mp m with rfl | m
    · exact fin (c := [.str "p", a1, .int b0, .int 8]) (b := b0) (rn := "p") (cont_mem nS (by rw [es]; exact List.mem_cons_self)) rfl rp rfl h0.1
    rcases List.mem_cons.mp m with rfl | m
    · exact fin (c := [.str "p", a2, .int b1, .int 8]) (b := b1) (rn := "p") (cont_mem nS (by rw [es]; exact List.mem_cons_of_mem _ List.mem_cons_self)) rfl rp rfl h1.1
    rcases List.mem_cons.mp m with rfl | m
    · exact fin (c := [.str "p", a3, .int b2, .int 8]) (b := b2) (rn := "p") (cont_mem nS (by rw [es]; exact List.mem_cons_of_mem _ (List.mem_cons_of_mem _ List.mem_cons_self))) rfl rp rfl h2.1
    · rw [List.mem_singleton] at m
      subst m
      exact fin (c := [.str "q", a4, .int 2, .int 8]) (b := 2) (rn := "q") (cont_mem nS (by rw [es]; exact List.mem_cons_of_mem _ (List.mem_cons_of_mem _ (List.mem_cons_of_mem _ List.mem_cons_self)))) rfl rq rfl (by decide)
def bF (ns : List Int) (k : Nat) : Int := 1 + drawF ns (40 + k) % 6
theorem bF_b (ns : List Int) (k : Nat) : 0 ≤ bF ns k ∧ bF ns k ≤ 1000 := by
  unfold bF
  have := Int.emod_nonneg (drawF ns (40 + k)) (show (6 : Int) ≠ 0 by decide)
  have := Int.emod_lt_of_pos (drawF ns (40 + k)) (show (0 : Int) < 6 by decide)
  omega
theorem log2_small {i : Int} (h0 : 0 ≤ i) (h1 : i < 100) : i.natAbs.log2 < 1920 := Nat.lt_of_le_of_lt (Nat.log2_le_self _) (by omega)
theorem upd_keep {H : Hp} {a b : Addr} {x o : HO} (n : a ≠ b) (e : H a = some x) : (upd H b o) a = some x := by rw [upd_ne n]; exact e
section
variable {P : Program} {w : World} {K : PySem.W.Frag} {mg : Str → Option Value} {base : Heap} {C : Addr}
theorem ok_state {f : Addr} {fd : FuncData} (F0 : Fun K "_law_state" "_law_state" s_law_state f fd) (T : Bl mg) (X : Txt K mg C) (St : Sta P w K mg base C)
    (D_law_draw : Kn P w K mg base 1 "_law_draw" ["script", "k"] (spDraw K)) (D_law_value : Kn P w K mg base 1 "_law_value" ["number"] spLValue) :
    FnOk P w K mg base CX0 8 f fd ["script", "start"] (spState K C) := by
  obtain ⟨fI, fdI, a0, dsI, M, GI, GI0, bI, bI0, vI0, hA0⟩ := St.ex
  refine F0.ok sc_law_state (fun vs H Q E h => ?_) (fun cdv A outer s0 H vs Q E hr h => ?_)
  · obtain ⟨a, ns, rfl, _⟩ := h
    rfl
  · obtain ⟨a, ns, rfl, hS, hlen, q⟩ := h
    have hu := hu_of hr
    refine ⟨_, (pss_cons (ps_set (i := 2) sc_law_state.nd rfl (.inl rfl) (pe_lst (pa_cons (pe_tup (pa_cons pe_str (pa_cons pe_str (pa_cons (pe_tup (pa_cons pe_str (pa_cons pe_str pa_nil))) (pa_cons pe_int pa_nil))))) (pa_cons (pe_tup (pa_cons pe_str (pa_cons pe_str (pa_cons (pe_tup (pa_cons pe_str pa_nil)) (pa_cons pe_int pa_nil))))) pa_nil))))
      (pss_cons (ps_for PassesOwn.never rfl (pi_range1 (by rfl) T.range (pa_cons (pe_op op_add pe_int (pe_op op_mod (pe_kn D_law_draw hr (pa_cons (pv 0) (pa_cons (pv 1) pa_nil))) pe_int)) pa_nil)) (pg_name (i := 3) sc_law_state.nd rfl (.inl rfl)) (pss_cons (ps_set (i := 4) sc_law_state.nd rfl (.inl rfl) (pe_kn D_law_draw hr (pa_cons (pv 0) (pa_cons (pe_op op_add (pe_op op_add (pv 1) pe_int) (pv 3)) pa_nil))))
      (pss_one (ps_if (pt_cmpR op_eq (pe_op op_mod (pv 4) pe_int) pe_int (nomark _)) (pss_one (ps_expr (pe_bm PySem.F.plainAttrs_list PySem.F.slot_list_append PySem.F.type_list_append mt_append (pv 2) (pa_cons (pe_tup (pa_cons pe_str (pa_cons pe_str (pa_cons (pe_tup (pa_cons (pe_kn D_law_value hr (pa_cons (pe_op op_fdiv (pv 4) pe_int) pa_nil)) pa_nil)) pa_nil)))) pa_nil)))) (pss_one (ps_expr (pe_bm PySem.F.plainAttrs_list PySem.F.slot_list_append PySem.F.type_list_append mt_append (pv 2) (pa_cons (pe_tup (pa_cons pe_str (pa_cons pe_str (pa_cons (pe_tup (pa_cons (pe_kn D_law_value hr (pa_cons (pe_op op_fdiv (pv 4) pe_int) pa_nil)) (pa_cons (pe_kn D_law_value hr (pa_cons (pe_op op_fdiv (pv 4) pe_int) pa_nil)) pa_nil))) pa_nil)))) pa_nil))))))))
      (pss_cons (ps_setLc (i := 5) (own := [("k", 3)]) (g := gName 3) (tt := tYes) rfl sc_law_state.nd rfl rfl (sw_true rfl rfl rfl (by decide +kernel)) (pi_range1 (by rfl) T.range (pa_cons pe_int pa_nil)) (blkOk_by (own := [("k", 3)]) (N := N_law_state) (sc := defScope s_law_state) (by decide +kernel)) (fun _ _ _ _ _ => pg_name (i := 3) sc_law_state.nd rfl (Or.inl rfl)) (fun _ _ _ _ _ => pts_nil) (fun _ _ _ _ _ => (pe_op op_add pe_int (pe_op op_mod (pe_kn D_law_draw hr (pa_cons (pv 0) (pa_cons (pe_op op_add (pe_op op_add (pv 1) pe_int) (pv 3)) pa_nil))) pe_int))))
      (pss_cons (ps_expr (pe_bm PySem.F.plainAttrs_list PySem.F.slot_list_append PySem.F.type_list_append mt_append (pv 2) (pa_cons (pe_tup (pa_cons pe_str (pa_cons pe_str (pa_cons pe_str (pa_cons (pe_tup (pa_cons pe_str pa_nil)) (pa_cons (pe_ix ix_list (pv 5) pe_int (fun _ _ => rfl)) (pa_cons pe_int pa_nil))))))) pa_nil)))
      (pss_cons (ps_expr (pe_bm PySem.F.plainAttrs_list PySem.F.slot_list_append PySem.F.type_list_append mt_append (pv 2) (pa_cons (pe_tup (pa_cons pe_str (pa_cons pe_str (pa_cons pe_str (pa_cons (pe_tup (pa_cons pe_str pa_nil)) (pa_cons (pe_ix ix_list (pv 5) pe_int (fun _ _ => rfl)) (pa_cons pe_int pa_nil))))))) pa_nil)))
      (pss_cons (ps_expr (pe_bm PySem.F.plainAttrs_list PySem.F.slot_list_append PySem.F.type_list_append mt_append (pv 2) (pa_cons (pe_tup (pa_cons pe_str (pa_cons pe_str (pa_cons pe_str (pa_cons (pe_tup (pa_cons pe_str (pa_cons pe_str pa_nil))) (pa_cons (pe_ix ix_list (pv 5) pe_int (fun _ _ => rfl)) (pa_cons pe_int pa_nil))))))) pa_nil)))
      (pss_cons (ps_expr (pe_bm PySem.F.plainAttrs_list PySem.F.slot_list_append PySem.F.type_list_append mt_append (pv 2) (pa_cons (pe_tup (pa_cons pe_str (pa_cons pe_str (pa_cons pe_str (pa_cons (pe_tup (pa_cons pe_str pa_nil)) (pa_cons pe_int (pa_cons pe_int pa_nil))))))) pa_nil)))
      (pss_cons (ps_set (i := 6) sc_law_state.nd rfl (.inl rfl) (pe_lst (pa_cons (pe_tup pa_nil) (pa_cons (pe_tup (pa_cons pe_str pa_nil)) (pa_cons (pe_tup (pa_cons pe_str (pa_cons pe_str pa_nil))) (pa_cons (pe_tup (pa_cons pe_str (pa_cons pe_str pa_nil))) (pa_cons (pe_tup (pa_cons pe_str (pa_cons pe_str (pa_cons pe_str pa_nil)))) (pa_cons (pe_tup (pa_cons pe_str pa_nil)) pa_nil))))))))
      (pss_cons (ps_for PassesOwn.never rfl (pi_range1 (by rfl) T.range (pa_cons (pe_op op_add pe_int (pe_op op_mod (pe_kn D_law_draw hr (pa_cons (pv 0) (pa_cons (pe_op op_add (pv 1) pe_int) pa_nil))) pe_int)) pa_nil)) (pg_name (i := 3) sc_law_state.nd rfl (.inl rfl)) (pss_one (ps_expr (pe_bm PySem.F.plainAttrs_list PySem.F.slot_list_append PySem.F.type_list_append mt_append (pv 2) (pa_cons (pe_tup (pa_cons pe_str (pa_cons (pe_op op_add_str pe_str (pe_callTy call_str_int (by rfl) T.str (by decide +kernel) (pa_cons (pv 3) pa_nil))) (pa_cons (pe_ix ix_list (pv 6) (pv 3) (fun _ _ => rfl)) pa_nil)))) pa_nil)))))
      (pss_one (ps_ret (pe_make M GI hr (by rfl) X.mgC bI .nil pass0 (pa_cons (pv 2) pa_nil))))))))))))), ?_⟩
    have dn := fun k => drawF_nn ns k
    have lit : ∀ {H0 H : Hp} {p : Addr} {n : Nat} {rs ss : List (Str × List V)}, Itm K H0 H p n rs ss → ∃ xs, SqL K H p xs := fun h => by
      obtain ⟨its, e, _⟩ := h.ex
      exact ⟨_, SqL.of e⟩
    -- the two relations
    refine ⟨sz 2, fun c1 nc1 => ?_⟩
    have s1 := Same.new (o := .tup [V.str "a", .str "b"]) nc1
    generalize (upd H c1 (.tup [V.str "a", .str "b"])) = H1 at *
    refine ⟨sz 4, fun t1 nt1 => ?_⟩
    have s2 := s1.trans (Same.new (o := .tup [V.str "relation", .str "p", .ref c1, .int 20]) nt1)
    have e2 := upd_same (H := H1) (a := t1) (o := .tup [V.str "relation", .str "p", .ref c1, .int 20])
    generalize (upd H1 t1 (.tup [V.str "relation", .str "p", .ref c1, .int 20])) = H2 at *
    refine ⟨sz 1, fun c2 nc2 => ?_⟩
    have s3 := s2.trans (Same.new (o := .tup [V.str "c"]) nc2)
    have e3 := (Same.new (o := .tup [V.str "c"]) nc2) _ _ e2
    generalize (upd H2 c2 (.tup [V.str "c"])) = H3 at *
    refine ⟨sz 4, fun t2 nt2 => ?_⟩
    have s4 := s3.trans (Same.new (o := .tup [V.str "relation", .str "q", .ref c2, .int 20]) nt2)
    have e4 := (Same.new (o := .tup [V.str "relation", .str "q", .ref c2, .int 20]) nt2) _ _ e3
    have f4 := upd_same (H := H3) (a := t2) (o := .tup [V.str "relation", .str "q", .ref c2, .int 20])
    generalize (upd H3 t2 (.tup [V.str "relation", .str "q", .ref c2, .int 20])) = H4 at *
    refine ⟨sz 2, fun p np => ?_⟩
    have s5 := s4.trans (Same.new (o := .lst [V.ref t1, .ref t2]) np)
    have e5 := (Same.new (o := .lst [V.ref t1, .ref t2]) np) _ _ e4
    have f5 := (Same.new (o := .lst [V.ref t1, .ref t2]) np) _ _ f4
    have g5 := upd_same (H := H4) (a := p) (o := .lst [V.ref t1, .ref t2])
    generalize (upd H4 p (.lst [V.ref t1, .ref t2])) = H5 at *
    have itm0 : Itm K H H5 p 2 [("p", [V.ref c1, .int 20]), ("q", [V.ref c2, .int 20])] [] :=
      ⟨s5, s4.free np, [(t1, .rel "p" [V.ref c1, .int 20]), (t2, .rel "q" [V.ref c2, .int 20])], g5, (fun t m => by
        rcases List.mem_cons.mp m with rfl | m
        · exact SqT.of e5
        · rcases List.mem_cons.mp m with rfl | m
          · exact SqT.of f5
          · nomatch m), Nat.le_refl _, rfl, rfl⟩
    clear s1 s2 s3 s4 s5 e2 e3 e4 f4 e5 f5 g5
    -- the facts
    have d30 := Int.emod_nonneg (drawF ns 0) (show (30 : Int) ≠ 0 by decide)
    have d30' := Int.emod_lt_of_pos (drawF ns 0) (show (0 : Int) < 30 by decide)
    refine ⟨_, rfl, _, rfl, a, ns, 0, rfl, itm0.same.seq hS, hlen, by decide, _, _, rfl, rfl, (by show (0 : Int) < 30; decide), _, _, rfl, rfl, _, rfl, by omega, by omega, ?_⟩
    refine for_range (lo := 0) (fun i σ H' => ∃ v3 v4, σ = [some (.ref a), some (.int 0), some (.ref p), v3, v4, none, none] ∧ Itm K H H' p (2 + i) [("p", [V.ref c1, .int 20]), ("q", [V.ref c2, .int 20])] []) ⟨none, none, rfl, itm0⟩ ?_ ?_
    · rintro i σ H' hi ⟨v3, v4, rfl, itm⟩
      have hi' : i < 40 := by omega
      refine ⟨_, rfl, _, rfl, _, _, rfl, rfl, _, rfl, _, _, rfl, rfl, a, ns, 1 + i, congrArg (fun z : Int => [V.ref a, V.int z]) (show (0 : Int) + 1 + (0 + (i : Int)) = ((1 + i : Nat) : Int) by omega), itm.same.seq hS, hlen, by omega, ?_⟩
      refine ⟨_, rfl, _, _, rfl, rfl, (by show (0 : Int) < 5; decide), rfl, _, rfl, ite2 (fun _ => ?_) (fun _ => ?_)⟩
      · refine ⟨_, rfl, .inl ⟨rfl, lit itm⟩, _, rfl, _, _, rfl, rfl, ⟨by decide, by decide⟩, _, rfl, fun v sv => ⟨sz 1, fun t nt => ?_⟩⟩
        have m1 := itm.other (Same.new (o := .tup [v]) nt)
        have e1 := upd_same (H := H') (a := t) (o := .tup [v])
        generalize (upd H' t (.tup [v])) = H6 at *
        refine ⟨sz 3, fun u nu => ?_⟩
        have m2 := m1.other (Same.new (o := .tup [V.str "fact", .str "q", .ref t]) nu)
        have e1' := (Same.new (o := .tup [V.str "fact", .str "q", .ref t]) nu) _ _ e1
        have e2 := upd_same (H := H6) (a := u) (o := .tup [V.str "fact", .str "q", .ref t])
        generalize (upd H6 u (.tup [V.str "fact", .str "q", .ref t])) = H7 at *
        obtain ⟨xs, ex, lx, m3⟩ := m2.push (i := .fact "q" t [v]) (m := 2 + (i + 1)) ⟨SqT.of e2, SqT.of e1', (fun y my => by rw [List.mem_singleton.mp my]; exact sv), (show (1 : Nat) ≤ 10 by decide)⟩ (by omega) (by omega)
        exact ⟨p, xs, _, rfl, rfl, ex, lx, _, _, rfl, m3⟩
      · refine ⟨_, rfl, .inl ⟨rfl, lit itm⟩, _, rfl, _, _, rfl, rfl, ⟨by decide, by decide⟩, _, rfl, fun v sv => ?_⟩
        refine ⟨_, rfl, _, _, rfl, rfl, ⟨by decide, by decide⟩, _, rfl, fun v2 sv2 => ⟨sz 2, fun t nt => ?_⟩⟩
        have m1 := itm.other (Same.new (o := .tup [v, v2]) nt)
        have e1 := upd_same (H := H') (a := t) (o := .tup [v, v2])
        generalize (upd H' t (.tup [v, v2])) = H6 at *
        refine ⟨sz 3, fun u nu => ?_⟩
        have m2 := m1.other (Same.new (o := .tup [V.str "fact", .str "p", .ref t]) nu)
        have e1' := (Same.new (o := .tup [V.str "fact", .str "p", .ref t]) nu) _ _ e1
        have e2 := upd_same (H := H6) (a := u) (o := .tup [V.str "fact", .str "p", .ref t])
        generalize (upd H6 u (.tup [V.str "fact", .str "p", .ref t])) = H7 at *
        obtain ⟨xs, ex, lx, m3⟩ := m2.push (i := .fact "p" t [v, v2]) (m := 2 + (i + 1)) ⟨SqT.of e2, SqT.of e1', (fun y my => by
          rcases List.mem_cons.mp my with rfl | my
          · exact sv
          · rw [List.mem_singleton.mp my]; exact sv2), (show (2 : Nat) ≤ 10 by decide)⟩ (by omega) (by omega)
        exact ⟨p, xs, _, rfl, rfl, ex, lx, _, _, rfl, m3⟩
    · rintro σ H' ⟨v3, v4, rfl, itm⟩
      have itm : Itm K H H' p 40 [("p", [V.ref c1, .int 20]), ("q", [V.ref c2, .int 20])] [] := by
        obtain ⟨its, e, ok, l, r1, s1⟩ := itm.ex
        exact ⟨itm.same, itm.nw, its, e, ok, by omega, r1, s1⟩
      -- the buckets
      refine ⟨_, rfl, by decide, by decide, fun D nD => ?_⟩
      have Dnp : D ≠ p := fun z => by
        obtain ⟨its, e, _⟩ := itm.ex
        rw [z, e] at nD
        cases nD
      refine lc_mk (walk_range (lo := 0)) (fun k => V.int (bF ns k)) (by decide) nD (fun _ _ => trivial) (fun i x H2 H2' N hi s2 yy fin => ?_) fun H' s2 eD => ?_
      · obtain ⟨rfl, ex⟩ := yy
        subst ex
        have hi' : i < 3 := hi
        exact ⟨rfl, _, rfl, _, rfl, _, _, rfl, rfl, _, rfl, _, _, rfl, rfl, a, ns, 40 + i, congrArg (fun z : Int => [V.ref a, V.int z]) (show (0 : Int) + 40 + (0 + (i : Int)) = ((40 + i : Nat) : Int) by omega), (itm.same.trans s2).seq hS, hlen, by omega, _, _, rfl, rfl, (by show (0 : Int) < 6; decide), _, _, rfl, rfl, fin _ (Same.refl _)⟩
      replace itm := itm.other s2
      have eD : H' D = some (.lst [V.int (bF ns 0), .int (bF ns 1), .int (bF ns 2)]) := eD
      refine ⟨_, rfl, .inl ⟨rfl, lit itm⟩, sz 1, fun zs na => ?_⟩
      replace itm := itm.other (Same.new (o := .tup [V.str "a"]) na)
      replace eD := (Same.new (o := .tup [V.str "a"]) na) _ _ eD
      generalize (upd H' zs (.tup [V.str "a"])) = H' at *
      refine ⟨_, rfl, D, _, 0, .int (bF ns 0), rfl, rfl, SqL.of eD, at_of (j := 0) rfl rfl, sz 6, fun u nu => ?_⟩
      replace itm := itm.other (Same.new (o := .tup [V.str "structure", .str "s", .str "p", .ref zs, V.int (bF ns 0), .int 8]) nu)
      replace eD := (Same.new (o := .tup [V.str "structure", .str "s", .str "p", .ref zs, V.int (bF ns 0), .int 8]) nu) _ _ eD
      have eu := upd_same (H := H') (a := u) (o := .tup [V.str "structure", .str "s", .str "p", .ref zs, V.int (bF ns 0), .int 8])
      generalize (upd H' u (.tup [V.str "structure", .str "s", .str "p", .ref zs, V.int (bF ns 0), .int 8])) = H' at *
      obtain ⟨xs, ex, lx, itm2⟩ := itm.push (i := .str "s" [V.str "p", .ref zs, V.int (bF ns 0), .int 8]) (m := 41) (SqT.of eu) (by omega) (by omega)
      refine ⟨p, xs, _, rfl, rfl, ex, lx, ?_⟩
      replace eD := upd_keep Dnp eD (o := .lst (xs ++ [.ref u]))
      generalize (upd H' p (.lst (xs ++ [.ref u]))) = H' at *
      clear ex eu itm lx
      have itm := itm2
      clear itm2 xs
      refine ⟨_, rfl, .inl ⟨rfl, lit itm⟩, sz 1, fun zt na => ?_⟩
      replace itm := itm.other (Same.new (o := .tup [V.str "b"]) na)
      replace eD := (Same.new (o := .tup [V.str "b"]) na) _ _ eD
      generalize (upd H' zt (.tup [V.str "b"])) = H' at *
      refine ⟨_, rfl, D, _, 1, .int (bF ns 1), rfl, rfl, SqL.of eD, at_of (j := 1) rfl rfl, sz 6, fun u nu => ?_⟩
      replace itm := itm.other (Same.new (o := .tup [V.str "structure", .str "t", .str "p", .ref zt, V.int (bF ns 1), .int 8]) nu)
      replace eD := (Same.new (o := .tup [V.str "structure", .str "t", .str "p", .ref zt, V.int (bF ns 1), .int 8]) nu) _ _ eD
      have eu := upd_same (H := H') (a := u) (o := .tup [V.str "structure", .str "t", .str "p", .ref zt, V.int (bF ns 1), .int 8])
      generalize (upd H' u (.tup [V.str "structure", .str "t", .str "p", .ref zt, V.int (bF ns 1), .int 8])) = H' at *
      obtain ⟨xs, ex, lx, itm2⟩ := itm.push (i := .str "t" [V.str "p", .ref zt, V.int (bF ns 1), .int 8]) (m := 42) (SqT.of eu) (by omega) (by omega)
      refine ⟨p, xs, _, rfl, rfl, ex, lx, ?_⟩
      replace eD := upd_keep Dnp eD (o := .lst (xs ++ [.ref u]))
      generalize (upd H' p (.lst (xs ++ [.ref u]))) = H' at *
      clear ex eu itm lx
      have itm := itm2
      clear itm2 xs
      refine ⟨_, rfl, .inl ⟨rfl, lit itm⟩, sz 2, fun zu na => ?_⟩
      replace itm := itm.other (Same.new (o := .tup [V.str "b", .str "a"]) na)
      replace eD := (Same.new (o := .tup [V.str "b", .str "a"]) na) _ _ eD
      generalize (upd H' zu (.tup [V.str "b", .str "a"])) = H' at *
      refine ⟨_, rfl, D, _, 2, .int (bF ns 2), rfl, rfl, SqL.of eD, at_of (j := 2) rfl rfl, sz 6, fun u nu => ?_⟩
      replace itm := itm.other (Same.new (o := .tup [V.str "structure", .str "u", .str "p", .ref zu, V.int (bF ns 2), .int 8]) nu)
      replace eD := (Same.new (o := .tup [V.str "structure", .str "u", .str "p", .ref zu, V.int (bF ns 2), .int 8]) nu) _ _ eD
      have eu := upd_same (H := H') (a := u) (o := .tup [V.str "structure", .str "u", .str "p", .ref zu, V.int (bF ns 2), .int 8])
      generalize (upd H' u (.tup [V.str "structure", .str "u", .str "p", .ref zu, V.int (bF ns 2), .int 8])) = H' at *
      obtain ⟨xs, ex, lx, itm2⟩ := itm.push (i := .str "u" [V.str "p", .ref zu, V.int (bF ns 2), .int 8]) (m := 43) (SqT.of eu) (by omega) (by omega)
      refine ⟨p, xs, _, rfl, rfl, ex, lx, ?_⟩
      replace eD := upd_keep Dnp eD (o := .lst (xs ++ [.ref u]))
      generalize (upd H' p (.lst (xs ++ [.ref u]))) = H' at *
      clear ex eu itm lx
      have itm := itm2
      clear itm2 xs
      refine ⟨_, rfl, .inl ⟨rfl, lit itm⟩, sz 1, fun zw na => ?_⟩
      replace itm := itm.other (Same.new (o := .tup [V.str "c"]) na)
      replace eD := (Same.new (o := .tup [V.str "c"]) na) _ _ eD
      generalize (upd H' zw (.tup [V.str "c"])) = H' at *
      refine ⟨sz 6, fun u nu => ?_⟩
      replace itm := itm.other (Same.new (o := .tup [V.str "structure", .str "w", .str "q", .ref zw, V.int 2, .int 8]) nu)
      replace eD := (Same.new (o := .tup [V.str "structure", .str "w", .str "q", .ref zw, V.int 2, .int 8]) nu) _ _ eD
      have eu := upd_same (H := H') (a := u) (o := .tup [V.str "structure", .str "w", .str "q", .ref zw, V.int 2, .int 8])
      generalize (upd H' u (.tup [V.str "structure", .str "w", .str "q", .ref zw, V.int 2, .int 8])) = H' at *
      obtain ⟨xs, ex, lx, itm2⟩ := itm.push (i := .str "w" [V.str "q", .ref zw, V.int 2, .int 8]) (m := 44) (SqT.of eu) (by omega) (by omega)
      refine ⟨p, xs, _, rfl, rfl, ex, lx, ?_⟩
      replace eD := upd_keep Dnp eD (o := .lst (xs ++ [.ref u]))
      generalize (upd H' p (.lst (xs ++ [.ref u]))) = H' at *
      clear ex eu itm lx
      have itm := itm2
      clear itm2 xs
      have itm : Itm K H H' p 44 [("p", [V.ref c1, .int 20]), ("q", [V.ref c2, .int 20])] [("s", [.str "p", .ref zs, .int (bF ns 0), .int 8]), ("t", [.str "p", .ref zt, .int (bF ns 1), .int 8]), ("u", [.str "p", .ref zu, .int (bF ns 2), .int 8]), ("w", [.str "q", .ref zw, .int 2, .int 8])] := itm
      clear eD
      refine ⟨sz 0, fun y0 ny => ?_⟩
      replace itm := itm.other (Same.new (o := .tup ([] : List V)) ny)
      generalize (upd H' y0 (.tup ([] : List V))) = H' at *
      refine ⟨sz 1, fun y1 ny => ?_⟩
      replace itm := itm.other (Same.new (o := .tup [V.str "s"]) ny)
      generalize (upd H' y1 (.tup [V.str "s"])) = H' at *
      refine ⟨sz 2, fun y2 ny => ?_⟩
      replace itm := itm.other (Same.new (o := .tup [V.str "t", .str "w"]) ny)
      generalize (upd H' y2 (.tup [V.str "t", .str "w"])) = H' at *
      refine ⟨sz 2, fun y3 ny => ?_⟩
      replace itm := itm.other (Same.new (o := .tup [V.str "s", .str "u"]) ny)
      generalize (upd H' y3 (.tup [V.str "s", .str "u"])) = H' at *
      refine ⟨sz 3, fun y4 ny => ?_⟩
      replace itm := itm.other (Same.new (o := .tup [V.str "u", .str "t", .str "s"]) ny)
      generalize (upd H' y4 (.tup [V.str "u", .str "t", .str "s"])) = H' at *
      refine ⟨sz 1, fun y5 ny => ?_⟩
      replace itm := itm.other (Same.new (o := .tup [V.str "w"]) ny)
      generalize (upd H' y5 (.tup [V.str "w"])) = H' at *
      refine ⟨sz 6, fun la nla => ?_⟩
      have lap : la ≠ p := fun z => by
        obtain ⟨its, e, _⟩ := itm.ex
        rw [z, e] at nla
        cases nla
      replace itm := itm.other (Same.new (o := .lst [V.ref y0, .ref y1, .ref y2, .ref y3, .ref y4, .ref y5]) nla)
      have el := upd_same (H := H') (a := la) (o := .lst [V.ref y0, .ref y1, .ref y2, .ref y3, .ref y4, .ref y5])
      generalize (upd H' la (.lst [V.ref y0, .ref y1, .ref y2, .ref y3, .ref y4, .ref y5])) = H' at *
      have d6 := Int.emod_nonneg (drawF ns 43) (show (6 : Int) ≠ 0 by decide)
      have d6' := Int.emod_lt_of_pos (drawF ns 43) (show (0 : Int) < 6 by decide)
      refine ⟨_, rfl, _, rfl, _, _, rfl, rfl, a, ns, 43, rfl, itm.same.seq hS, hlen, by decide, _, _, rfl, rfl, (by show (0 : Int) < 6; decide), _, _, rfl, rfl, _, rfl, by omega, by omega, ?_⟩
      refine for_range (lo := 0) (fun i σ H' => ∃ v3 v4 v5, σ = [some (.ref a), some (.int 0), some (.ref p), v3, v4, v5, some (.ref la)] ∧ H' la = some (.lst [V.ref y0, .ref y1, .ref y2, .ref y3, .ref y4, .ref y5]) ∧ Itm K H H' p (44 + i) [("p", [V.ref c1, .int 20]), ("q", [V.ref c2, .int 20])] [("s", [.str "p", .ref zs, .int (bF ns 0), .int 8]), ("t", [.str "p", .ref zt, .int (bF ns 1), .int 8]), ("u", [.str "p", .ref zu, .int (bF ns 2), .int 8]), ("w", [.str "q", .ref zw, .int 2, .int 8])]) ⟨_, _, _, rfl, el, itm⟩ ?_ ?_
      · clear itm el nla
        rintro i σ H' hi ⟨v3, v4, v5, rfl, el, itm⟩
        have hi' : i < 6 := by omega
        obtain ⟨y, ey⟩ : ∃ y, ([V.ref y0, .ref y1, .ref y2, .ref y3, .ref y4, .ref y5] : List V)[i]? = some (.ref y) := by
          match i, hi' with
          | 0, _ => exact ⟨_, rfl⟩
          | 1, _ => exact ⟨_, rfl⟩
          | 2, _ => exact ⟨_, rfl⟩
          | 3, _ => exact ⟨_, rfl⟩
          | 4, _ => exact ⟨_, rfl⟩
          | 5, _ => exact ⟨_, rfl⟩
        refine ⟨_, rfl, .inl ⟨rfl, lit itm⟩, _, rfl, _, rfl, log2_small (by omega) (by omega), _, _, rfl, rfl, lay_sc _ (by omega) (by omega), _, rfl, _, rfl, la, _, _, .ref y, rfl, rfl, SqL.of el, at_of (j := i) (by omega) ey, sz 3, fun u nu => ?_⟩
        obtain ⟨xs, ex, lx, el2, m3⟩ := itm.lay (nm := ("l" : Str) ++ Str.ofString (toString (0 + (i : Int)))) (v := .ref y) (la := la) (m := 44 + (i + 1)) nu el lap (by omega) (by omega)
        exact ⟨p, xs, _, rfl, rfl, ex, lx, _, _, _, rfl, el2, m3⟩
      · rintro σ H' ⟨v3, v4, v5, rfl, el, itm⟩
        obtain ⟨its, e, iok, l, r1, s1⟩ := itm.ex
        refine ⟨_, rfl, fun x dx nx ndx nex => ⟨x, p, dx, its, rfl, upd_same, ?_, fun u mu => ?_, by omega, fun ar af as_ al R1 S1 F1 L1 H8 st8 pu gw8 => ?_⟩⟩
        · exact SqL.of (same_make (C := C) nx ndx _ _ e)
        · exact (iok u mu).tk (Tk.same (same_make nx ndx))
        · have s8 := itm.same.trans (same_made nx ndx gw8)
          have er := (puts_rel pu (by rw [r1]; show (["p", "q"] : List Str).Nodup; decide +kernel)).trans r1
          have es := (puts_str pu (by rw [s1]; show (["s", "t", "u", "w"] : List Str).Nodup; decide +kernel)).trans s1
          obtain ⟨h1, h2, h3⟩ := stF_of er es (bF_b ns 0) (bF_b ns 1) (bF_b ns 2)
          exact ⟨rfl, q x R1 S1 H8 s8 ⟨⟨_, _, _, _, _, _, _, _, st8⟩, h1, h2⟩ h3⟩
end
end K1
/-! the mathematics of ways -/
namespace K1
open PySem PySem.Spec PyProof.Rows L2 Ow Tlz
def Iv (b : Bool) (v : Int) : Int := if b = true then v else 0
def sumN (p : Str → Bool) (f : Str → Int) : Int := Iv (p "s") (f "s") + (Iv (p "t") (f "t") + (Iv (p "u") (f "u") + (Iv (p "w") (f "w") + 0)))
theorem sum_iv (f : Str → Int) (p : Str → Bool) : ∀ ns : List Str, ((ns.filter p).map f).sum = (ns.map fun n => Iv (p n) (f n)).sum
  | [] => rfl
  | n :: r => by
    rw [List.filter_cons, List.map_cons, List.sum_cons, ← sum_iv f p r]
    unfold Iv
    cases e : p n with
    | true => rw [if_pos rfl, if_pos rfl, List.map_cons, List.sum_cons]
    | false => rw [if_neg (by decide), if_neg (by decide), Int.zero_add]
theorem sum_in {xs : List Str} (f : Str → Int) (nd : xs.Nodup) (m : ∀ n ∈ xs, n ∈ N4) : (xs.map f).sum = sumN (fun n => decide (n ∈ xs)) f := by
  have p : xs.Perm (N4.filter fun n => decide (n ∈ xs)) := by
    refine (List.perm_ext_iff_of_nodup nd ((show N4.Nodup by decide +kernel).filter _)).mpr fun a => ?_
    rw [List.mem_filter, decide_eq_true_iff]
    exact ⟨fun h => ⟨m a h, h⟩, fun h => h.2⟩
  rw [sum_perm (p.map f), sum_iv]
  rfl
theorem goF_sum {R S : Tb} {xs ys : List Str} (nd : ys.Nodup) (m : ∀ n ∈ ys, n ∈ N4) : goF R S xs ys = sumN (fun n => decide (n ∈ ys) && !decide (n ∈ xs)) (layF R S) := by
  unfold goF
  rw [sum_in _ (nd.filter _) fun n h => m n (List.mem_filter.mp h).1]
  have e : (fun n => decide (n ∈ ys.filter fun n => !decide (n ∈ xs))) = fun n => decide (n ∈ ys) && !decide (n ∈ xs) := by
    funext n
    rw [Bool.eq_iff_iff, decide_eq_true_iff, List.mem_filter, Bool.and_eq_true, decide_eq_true_iff]
  rw [e]
theorem iv_back (a b : Bool) (v : Int) : Iv (b && !a) v + Iv a v = Iv (a && !b) v + Iv b v := by cases a <;> cases b <;> simp [Iv]
theorem iv_tri (a b c : Bool) {v : Int} (h : 0 ≤ v) : Iv (c && !a) v + Iv (a && !c) v ≤ Iv (b && !a) v + Iv (a && !b) v + (Iv (c && !b) v + Iv (b && !c) v) := by cases a <;> cases b <;> cases c <;> simp [Iv] <;> omega
theorem go_self {R S : Tb} (xs : List Str) : goF R S xs xs = 0 := by
  unfold goF
  have : xs.filter (fun n => !decide (n ∈ xs)) = [] := by
    rw [List.filter_eq_nil_iff]
    intro n m
    simp [m]
  rw [this]
  rfl
theorem go_back {R S : Tb} {xs ys : List Str} (nx : xs.Nodup) (mx : ∀ n ∈ xs, n ∈ N4) (ny : ys.Nodup) (my : ∀ n ∈ ys, n ∈ N4) :
    2 * goF R S xs ys + stdF R S xs = goF R S xs ys + goF R S ys xs + stdF R S ys := by
  unfold stdF
  rw [goF_sum ny my, goF_sum nx mx, sum_in _ nx mx, sum_in _ ny my]
  unfold sumN
  dsimp only
  have h1 := iv_back (decide (("s" : Str) ∈ xs)) (decide (("s" : Str) ∈ ys)) (layF R S "s")
  have h2 := iv_back (decide (("t" : Str) ∈ xs)) (decide (("t" : Str) ∈ ys)) (layF R S "t")
  have h3 := iv_back (decide (("u" : Str) ∈ xs)) (decide (("u" : Str) ∈ ys)) (layF R S "u")
  have h4 := iv_back (decide (("w" : Str) ∈ xs)) (decide (("w" : Str) ∈ ys)) (layF R S "w")
  omega
theorem go_tri {R S : Tb} {xs ys zs : List Str} (pos : ∀ n ∈ N4, 0 ≤ layF R S n) (nx : xs.Nodup) (mx : ∀ n ∈ xs, n ∈ N4) (ny : ys.Nodup) (my : ∀ n ∈ ys, n ∈ N4) (nz : zs.Nodup) (mz : ∀ n ∈ zs, n ∈ N4) :
    goF R S xs zs + goF R S zs xs ≤ goF R S xs ys + goF R S ys xs + (goF R S ys zs + goF R S zs ys) := by
  rw [goF_sum nz mz, goF_sum nx mx, goF_sum ny my, goF_sum nx mx, goF_sum nz mz, goF_sum ny my]
  unfold sumN
  dsimp only
  have h1 := iv_tri (decide (("s" : Str) ∈ xs)) (decide (("s" : Str) ∈ ys)) (decide (("s" : Str) ∈ zs)) (pos "s" (by decide +kernel))
  have h2 := iv_tri (decide (("t" : Str) ∈ xs)) (decide (("t" : Str) ∈ ys)) (decide (("t" : Str) ∈ zs)) (pos "t" (by decide +kernel))
  have h3 := iv_tri (decide (("u" : Str) ∈ xs)) (decide (("u" : Str) ∈ ys)) (decide (("u" : Str) ∈ zs)) (pos "u" (by decide +kernel))
  have h4 := iv_tri (decide (("w" : Str) ∈ xs)) (decide (("w" : Str) ∈ ys)) (decide (("w" : Str) ∈ zs)) (pos "w" (by decide +kernel))
  omega
end K1
/-! the law -/
namespace K1
open PySem PySem.Spec PyProof.Rows L2 Ow Tlz
abbrev slaw : Stmt := topS 22
abbrev Nlaw : List Str := ["script", "state", "rooms", "name", "layouts", "x", "y", "due", "z", "k"]
theorem sclaw : FnScope Nlaw ["script"] (defScope slaw) := ⟨rfl, rfl, rfl, by decide +kernel, rfl, by decide +kernel, by decide +kernel⟩
def spLaw (K : PySem.W.Frag) : Sp := fun vs H Q _ => ∃ (a : Addr) (ns : List Int), vs = [.ref a] ∧ SqL K H a (ns.map V.int) ∧ ns.length ≤ 63 ∧ ∀ H', Q (.bl true) H'
/-- the rooms, told so far -/
def Rms (f : Str → Int) (i : Nat) (kvs : List (Key × V)) : Prop := kvs.length ≤ i ∧ ∀ (j : Nat) (n : Str), j < i → N4[j]? = some n → valV kvs (Sum.inr n) = some (.int (f n))
theorem Rms.put {f : Str → Int} {i : Nat} {kvs : List (Key × V)} {n : Str} {v : Int} (h : Rms f i kvs) (e : N4[i]? = some n) (hv : v = f n) : Rms f (i + 1) (putK kvs (Sum.inr n) (.int v)) := by
  subst hv
  refine ⟨Nat.le_trans (length_putK _ _ _) (Nat.succ_le_succ h.1), fun j m hj em => ?_⟩
  rw [valV_put]
  by_cases w : (Sum.inr m : Key) = Sum.inr n
  · rw [if_pos w]
    cases w
    rfl
  · rw [if_neg w]
    refine h.2 j m ?_ em
    rcases Nat.lt_or_ge j i with z | z
    · exact z
    · have : j = i := by omega
      subst this
      rw [e] at em
      exact absurd (congrArg (Sum.inr (α := Int)) (Option.some.inj em).symm) w
theorem Rms.get {f : Str → Int} {kvs : List (Key × V)} {n : Str} (h : Rms f 4 kvs) (m : n ∈ N4) : valV kvs (Sum.inr n) = some (.int (f n)) := by
  obtain ⟨j, hj, e⟩ := List.getElem_of_mem m
  have hj' : j < 4 := hj
  exact h.2 j n hj' (by rw [List.getElem?_eq_getElem hj, e])
/-- a layout that is drawn -/
structure Lyt (K : PySem.W.Frag) (H : Hp) (t : Addr) (xs : List Str) : Prop where
  at' : SqT K H t (xs.map V.str)
  nd : xs.Nodup
  len : xs.length ≤ 4
  mem : ∀ n ∈ xs, n ∈ N4
theorem Lyt.tk {K : PySem.W.Frag} {H H' : Hp} {t : Addr} {xs : List Str} (h : Lyt K H t xs) (s : Tk K H H') : Lyt K H' t xs := ⟨s _ _ h.at', h.nd, h.len, h.mem⟩
theorem Lyt.nms {K : PySem.W.Frag} {H : Hp} {t : Addr} {xs : List Str} {R S : Tb} (h : Lyt K H t xs) (sf : StateF R S) : Nms K H t S xs := ⟨h.at', Nat.le_trans h.len (by decide), fun n m => (sf n (h.mem n m)).1⟩
section
variable {P : Program} {w : World} {K : PySem.W.Frag} {mg : Str → Option Value} {base : Heap} {C : Addr}
theorem ok_law {f : Addr} {fd : FuncData} (F0 : Fun K "law" "law" slaw f fd) (T : Bl mg) (X : Txt K mg C)
    (D_law_draw : Kn P w K mg base 1 "_law_draw" ["script", "k"] (spDraw K)) (D_law_layout : Kn P w K mg base 1 "_law_layout" ["number"] (spLayout K))
    (D_law_state : Kn P w K mg base 8 "_law_state" ["script", "start"] (spState K C))
    (Dlaying : Kn P w K mg base 2 "laying" ["state", "structure"] (spLaying K C)) (Dstands : Kn P w K mg base 3 "stands" ["state", "layout"] (spStands K C))
    (Dgoing : Kn P w K mg base 3 "going" ["state", "first", "second"] (spGoing K C)) (Dway : Kn P w K mg base 4 "way" ["state", "first", "second"] (spWay K C)) :
    FnOk P w K mg base CX0 9 f fd ["script"] (spLaw K) := by
  refine F0.ok sclaw (fun vs H Q E h => ?_) (fun cdv A outer s0 H vs Q E hr h => ?_)
  · obtain ⟨a, ns, rfl, _⟩ := h
    rfl
  · obtain ⟨a, ns, rfl, hS, hlen, q⟩ := h
    have hu := hu_of hr
    refine ⟨_, (pss_cons (ps_set (i := 1) sclaw.nd rfl (.inl rfl) (pe_kn D_law_state hr (pa_cons (pv 0) (pa_cons pe_int pa_nil))))
      (pss_cons (ps_set (i := 2) sclaw.nd rfl (.inr rfl) pe_dnewK)
      (pss_cons (ps_for PassesOwn.never rfl (pi_list (pe_lst (pa_cons pe_str (pa_cons pe_str (pa_cons pe_str (pa_cons pe_str pa_nil)))))) (pg_name (i := 3) sclaw.nd rfl (.inl rfl)) (pss_cons (ps_dput hu (pv 2) (pv 3) (pe_op op_add pe_int (pe_op op_mul (pe_ix ix_tup (pe_dget hu (pe_fld (pv 1) rfl) (pv 3) (fun _ _ => rfl)) pe_int (fun _ _ => rfl)) (pe_ix ix_tup (pe_dget hu (pe_fld (pv 1) rfl) (pv 3) (fun _ _ => rfl)) pe_int (fun _ _ => rfl)))) rfl)
      (pss_one (ps_if (pt_cmpR op_ne (pe_kn Dlaying hr (pa_cons (pv 1) (pa_cons (pv 3) pa_nil))) (pe_dget hu (pv 2) (pv 3) (fun _ _ => rfl)) (nomark _)) (pss_one (ps_ret pe_bl)) pss_nil))))
      (pss_cons (ps_setLc (i := 4) (own := [("k", 9)]) (g := gName 9) (tt := tYes) rfl sclaw.nd rfl rfl (sw_true rfl rfl rfl (by decide +kernel)) (pi_range1 (by rfl) T.range (pa_cons pe_int pa_nil)) (blkOk_by (own := [("k", 9)]) (N := Nlaw) (sc := defScope slaw) (by decide +kernel)) (fun _ _ _ _ _ => pg_name (i := 9) sclaw.nd rfl (Or.inl rfl)) (fun _ _ _ _ _ => pts_nil) (fun _ _ _ _ _ => (pe_kn D_law_layout hr (pa_cons (pe_kn D_law_draw hr (pa_cons (pv 0) (pa_cons (pe_op op_add pe_int (pv 9)) pa_nil))) pa_nil))))
      (pss_cons (ps_for PassesOwn.never rfl (pi_list (pv 4)) (pg_name (i := 5) sclaw.nd rfl (.inr rfl)) (pss_cons (ps_if (PW.pt (pw_or (pt_cmpR op_ne (pe_kn Dstands hr (pa_cons (pv 1) (pa_cons (pv 5) pa_nil))) (pe_callB (call_sum_K rfl rfl) (by rfl) T.sum (by decide +kernel) (pa_cons (pe_lc (own := [("name", 3)]) (g := gName 3) (tt := tYes) rfl sclaw.nd (pi_tup (pv 5)) (blkOk_by (own := [("name", 3)]) (N := Nlaw) (sc := defScope slaw) (by decide +kernel)) (fun _ _ _ _ _ => pg_name (i := 3) sclaw.nd rfl (Or.inl rfl)) (fun _ _ _ _ _ => pts_nil) (fun _ _ _ _ _ => (pe_dget hu (pv 2) (pv 3) (fun _ _ => rfl)))) pa_nil)) (nomark _)) (pw_or1 (pt_cmpR op_ne (pe_kn Dway hr (pa_cons (pv 1) (pa_cons (pv 5) (pa_cons (pv 5) pa_nil)))) pe_int (nomark _))))) (pss_one (ps_ret pe_bl)) pss_nil)
      (pss_one (ps_for PassesOwn.never rfl (pi_list (pv 4)) (pg_name (i := 6) sclaw.nd rfl (.inl rfl)) (pss_cons (ps_set (i := 7) sclaw.nd rfl (.inl rfl) (pe_callB (call_sum_K rfl rfl) (by rfl) T.sum (by decide +kernel) (pa_cons (pe_lc (own := [("name", 3)]) (g := gName 3) rfl sclaw.nd (pi_tup (pv 6)) (blkOk_by (own := [("name", 3)]) (N := Nlaw) (sc := defScope slaw) (by decide +kernel)) (fun _ _ _ _ _ => pg_name (i := 3) sclaw.nd rfl (Or.inl rfl)) (fun _ _ _ _ _ => (pts_one (pt_cmpR (op_notIn_K (K := K) rfl) (pv 3) (pv 5) (by rfl)))) (fun _ _ _ _ _ => (pe_dget hu (pv 2) (pv 3) (fun _ _ => rfl)))) pa_nil)))
      (pss_cons (ps_if (PW.pt (pw_or (pt_cmpR op_ne (pe_kn Dgoing hr (pa_cons (pv 1) (pa_cons (pv 5) (pa_cons (pv 6) pa_nil)))) (pv 7) (nomark _)) (pw_or1 (pt_cmpR op_ne (pe_kn Dway hr (pa_cons (pv 1) (pa_cons (pv 5) (pa_cons (pv 6) pa_nil)))) (pe_kn Dway hr (pa_cons (pv 1) (pa_cons (pv 6) (pa_cons (pv 5) pa_nil)))) (nomark _))))) (pss_one (ps_ret pe_bl)) pss_nil)
      (pss_cons (ps_if (pt_cmpR op_ne (pe_op op_add (pe_op op_mul pe_int (pv 7)) (pe_kn Dstands hr (pa_cons (pv 1) (pa_cons (pv 5) pa_nil)))) (pe_op op_add (pe_kn Dway hr (pa_cons (pv 1) (pa_cons (pv 5) (pa_cons (pv 6) pa_nil)))) (pe_kn Dstands hr (pa_cons (pv 1) (pa_cons (pv 6) pa_nil)))) (nomark _)) (pss_one (ps_ret pe_bl)) pss_nil)
      (pss_one (ps_for PassesOwn.never rfl (pi_list (pv 4)) (pg_name (i := 8) sclaw.nd rfl (.inl rfl)) (pss_one (ps_if (pt_cmpR op_gt (pe_kn Dway hr (pa_cons (pv 1) (pa_cons (pv 5) (pa_cons (pv 8) pa_nil)))) (pe_op op_add (pe_kn Dway hr (pa_cons (pv 1) (pa_cons (pv 5) (pa_cons (pv 6) pa_nil)))) (pe_kn Dway hr (pa_cons (pv 1) (pa_cons (pv 6) (pa_cons (pv 8) pa_nil))))) (nomark _)) (pss_one (ps_ret pe_bl)) pss_nil)))))))))))
      (pss_one (ps_ret pe_bl))))))), ?_⟩
    refine ⟨_, rfl, a, ns, rfl, hS, hlen, fun x R S H1 s1 ly sf => ?_⟩
    refine fun dm ndm => ?_
    have s12 := Same.new (o := .dK []) ndm
    have e2 := upd_same (H := H1) (a := dm) (o := .dK [])
    generalize (upd H1 dm (.dK [])) = H2 at *
    refine ⟨sz 4, fun l nl => ?_⟩
    have s13 := s12.trans (Same.new (o := .lst [V.str "s", .str "t", .str "u", .str "w"]) nl)
    have e3 := (Same.new (o := .lst [V.str "s", .str "t", .str "u", .str "w"]) nl) _ _ e2
    have el : (upd H2 l (.lst [V.str "s", .str "t", .str "u", .str "w"])) l = some (.lst (N4.map V.str)) := upd_same
    have ldm : l ≠ dm := fun z => by rw [z, e2] at nl; cases nl
    generalize (upd H2 l (.lst [V.str "s", .str "t", .str "u", .str "w"])) = H3 at *
    clear s12 e2 nl
    refine ⟨l, rfl, ⟨_, SqL.of el⟩, for_list (K := K) (a := l) (xs := N4.map V.str) (fun i σ H4 => ∃ (y3 : Option V) (kvs : List (Key × V)), σ = [some (.ref a), some (.ref x), some (.ref dm), y3, none, none, none, none, none, none] ∧
        H4 l = some (.lst (N4.map V.str)) ∧ Same H1 H4 ∧ H4 dm = some (.dK kvs) ∧ Rms (layF R S) i kvs) ⟨none, [], rfl, el, s13, e3, Nat.le_refl _, fun j n hj => by omega⟩ (fun i σ H4 _ hP => ?_) (fun i y σ H4 hy hP => ?_) (fun σ H4 hP => ?_)⟩
    · obtain ⟨_, _, _, h, _⟩ := hP
      exact SqL.of h
    · obtain ⟨y3, kvs, rfl, el4, s4, e4, rms⟩ := hP
      rw [List.getElem?_map] at hy
      cases en : N4[i]? with
      | none => rw [en] at hy; cases hy
      | some n =>
        rw [en] at hy
        cases hy
        have mN := List.mem_of_getElem? en
        have i4 : i < 4 := (List.getElem?_eq_some_iff.mp en).1
        obtain ⟨mn, elay, _⟩ := sf n mN
        have ly4 := ly.same s4
        obtain ⟨dr, df, ds, dl, Z, F, L, b, st⟩ := ly4.st
        obtain ⟨dx, ob⟩ := st.ob
        obtain ⟨qa, c, ec, m⟩ := mem_val mn
        obtain ⟨rn, v, b', s', er, b0, b1, mr⟩ := ly.sc _ m
        have er' : c = [.str rn, v, .int b', .int s'] := er
        subst er'
        have ht2 := st.st _ m
        have fl : (flds (.ref dr) (.ref df) (.ref ds) (.ref dl)).lookup ("structures" : Str) = some (.ref ds) := flds_s _ _ _ _
        refine ⟨_, rfl, x, C, dx, _, _, rfl, ob, X.cl, X.nS, fl, _, rfl, ds, _, rfl, dget_n (.inl st.s) ec, qa, _, 2, .int b', rfl, rfl, ht2, at_of (j := 2) rfl rfl, ?_⟩
        refine ⟨_, rfl, x, C, dx, _, _, rfl, ob, X.cl, X.nS, fl, _, rfl, ds, _, rfl, dget_n (.inl st.s) ec, qa, _, 3, .int s', rfl, rfl, ht2, at_of (j := 3) rfl rfl, b', s', rfl, rfl, .inl ⟨by omega, by omega⟩, ?_⟩
        have ev : 20 + b' * s' = layF R S n := by rw [elay, size_eq ec]
        refine ⟨_, _, rfl, rfl, _, rfl, _, rfl, dm, _, rfl, DPut.k (k := Sum.inr n) e4 (small (m := 1000) (by have := rms.1; omega) (by decide)), ?_⟩
        have s5 : Same H1 (upd H4 dm (.dK (putK kvs (Sum.inr n) (.int (20 + b' * s'))))) := Same.over s4 ndm
        have e5 := upd_same (H := H4) (a := dm) (o := .dK (putK kvs (Sum.inr n) (.int (20 + b' * s'))))
        have el5 : (upd H4 dm (.dK (putK kvs (Sum.inr n) (.int (20 + b' * s'))))) l = some (.lst (N4.map V.str)) := by rw [upd_ne ldm]; exact el4
        have rms5 := rms.put (v := 20 + b' * s') en ev
        generalize (upd H4 dm (.dK (putK kvs (Sum.inr n) (.int (20 + b' * s'))))) = H5 at *
        refine ⟨_, rfl, _, rfl, x, R, S, n, rfl, ly.same s5, mn, fun H6 s6 => ?_⟩
        refine ⟨_, rfl, _, rfl, dm, _, rfl, .inl ⟨_, Sum.inr n, .inl (s6 _ _ e5), rfl, (rms5.2 i n (Nat.lt_succ_self i) en).symm⟩, rfl, _, rfl, ?_⟩
        refine iteNS rfl ?_
        exact ⟨_, _, rfl, s6 _ _ el5, s5.trans s6, s6 _ _ e5, rms5⟩
    · obtain ⟨y3, kvs, rfl, _, s4, e4, rms⟩ := hP
      have rms : Rms (layF R S) 4 kvs := rms
      have ly4 := ly.same s4
      have hS4 := (s1.trans s4).seq hS
      have gt : ∀ {n : Str} {H' : Hp}, n ∈ N4 → Same H4 H' → DGet H' dm (.str n) (some (.int (layF R S n))) := fun m s => .inl ⟨_, Sum.inr _, .inl (s _ _ e4), rfl, (rms.get m).symm⟩
      have pos : ∀ n ∈ N4, 0 ≤ layF R S n := fun n m => by
        obtain ⟨_, e, z⟩ := sf n m
        rw [e]
        omega
      clear el s13 e3 ldm
      -- the layouts
      refine ⟨_, rfl, by decide, by decide, fun D nD => lc_it (walk_range (lo := 0)) (fun i H5 => Same H4 H5 ∧ ∃ ts : List Addr, H5 D = some (.lst (ts.map V.ref)) ∧ ts.length = i ∧ ∀ t ∈ ts, ∃ xs, Lyt K H5 t xs) ⟨Same.new nD, [], upd_same, rfl, fun t m => nomatch m⟩ (fun i H5 _ hP => trivial) (fun i v H5 H5' hi hP yy => ?_) (fun H5 hP => ?_)⟩
      · obtain ⟨s5, ts, eD, lt, ht⟩ := hP
        obtain ⟨rfl, ex⟩ := yy
        subst ex
        have hi' : i < 4 := hi
        refine ⟨rfl, ?_⟩
        refine ⟨_, rfl, _, rfl, _, _, rfl, rfl, a, ns, 60 + i, congrArg (fun z : Int => [V.ref a, V.int z]) (show (60 : Int) + (0 + (i : Int)) = ((60 + i : Nat) : Int) by omega), s5.seq hS4, hlen, by omega, _, rfl, fun H6 t xs s6 nt ht6 nd len mem => ?_⟩
        have eD6 := s6 _ _ eD
        have tD : Tk K H6 (upd H6 D (.lst (ts.map V.ref ++ [.ref t]))) := Tk.put eD6
        refine ⟨_, eD6, by rw [List.length_map, lt]; exact small (show i ≤ 1000 by omega) (by decide), Same.over (s5.trans s6) nD, ts ++ [t], by rw [upd_same, List.map_append]; rfl, by rw [List.length_append, lt]; rfl, fun u mu => ?_⟩
        rcases List.mem_append.mp mu with mu | mu
        · obtain ⟨ys, hy⟩ := ht u mu
          exact ⟨ys, (hy.tk (Tk.same s6)).tk tD⟩
        · rw [List.mem_singleton.mp mu]
          exact ⟨xs, Lyt.tk ⟨ht6, nd, len, mem⟩ tD⟩
      obtain ⟨s5, ts, eD, lt, ht⟩ := hP
      have ly5 := ly4.same s5
      have gt5 : ∀ {n : Str} {H' : Hp}, n ∈ N4 → Same H5 H' → DGet H' dm (.str n) (some (.int (layF R S n))) := fun m s => gt m (s5.trans s)
      have tss : ∀ {i : Nat} {y : V} {H' : Hp}, (ts.map V.ref)[i]? = some y → Same H5 H' → ∃ t xs, y = .ref t ∧ Lyt K H' t xs := fun {i y H'} hy s => by
        rw [List.getElem?_map] at hy
        cases en : ts[i]? with
        | none => rw [en] at hy; cases hy
        | some t =>
          rw [en] at hy
          obtain ⟨xs, h⟩ := ht t (List.mem_of_getElem? en)
          exact ⟨t, xs, (Option.some.inj hy).symm, h.tk (Tk.same s)⟩
      clear gt e4 hS4 ly4 ly
      refine ⟨_, rfl, D, rfl, ⟨_, SqL.of eD⟩, for_list (K := K) (a := D) (xs := ts.map V.ref) (fun i σ H6 => ∃ y5 y6 y7 y8 : Option V, σ = [some (.ref a), some (.ref x), some (.ref dm), y3, some (.ref D), y5, y6, y7, y8, none] ∧ Same H5 H6)
        ⟨none, none, none, none, rfl, Same.refl _⟩ (fun i σ H6 _ hP => ?_) (fun i y σ H6 hy hP => ?_) (fun σ H6 hP => ?_)⟩
      · obtain ⟨_, _, _, _, _, s6⟩ := hP
        exact SqL.of (s6 _ _ eD)
      · obtain ⟨y5, y6, y7, y8, rfl, s6⟩ := hP
        obtain ⟨t, xs, rfl, lt6⟩ := tss hy s6
        refine ⟨_, rfl, _, rfl, x, t, R, S, xs, rfl, ly5.same s6, lt6.nms sf, fun H7 s7 => ?_⟩
        have s57 := s6.trans s7
        have lt7 := lt6.tk (Tk.same s7)
        have lxs : (xs.map V.str).length = xs.length := List.length_map _
        refine ⟨_, rfl, t, rfl, ⟨_, lt7.at'⟩, fun E1 nE => lc_mk (walk_tup (K := K) (a := t) (xs := xs.map V.str)) (fun i => (xs.map fun n => V.int (layF R S n)).getD i .non) (by rw [lxs]; exact small (show xs.length ≤ 1000 by have := lt7.len; omega) (by decide)) nE (fun H s => (lt7.tk (Tk.same s)).at') (fun i v H8 H8' N hi s8 yy fin => ?_) fun H8 s8 eE => ?_⟩
        · obtain ⟨rfl, ev⟩ := yy
          rw [List.getElem?_map] at ev
          cases en : xs[i]? with
          | none => rw [en] at ev; cases ev
          | some n =>
            rw [en] at ev
            cases ev
            have := fin _ (Same.refl _)
            rw [List.getD_eq_getElem?_getD, List.getElem?_map, en] at this
            exact ⟨rfl, _, rfl, _, rfl, dm, _, rfl, gt5 (lt7.mem n (List.mem_of_getElem? en)) (s57.trans s8), this⟩
        rw [lxs, map_get] at eE
        have e2 : (xs.map fun n => V.int (layF R S n)) = (xs.map (layF R S)).map V.int := by rw [List.map_map]; rfl
        rw [e2] at eE
        have s58 := s57.trans s8
        have lt8 := lt7.tk (Tk.same s8)
        refine ⟨E1, _, rfl, SqL.of eE, rfl, _, rfl, iteNS rfl ?_⟩
        refine ⟨_, rfl, _, rfl, _, rfl, x, t, t, R, S, xs, xs, rfl, ly5.same s58, lt8.nms sf, lt8.nms sf, fun H9 s9 => ⟨rfl, _, rfl, iteNS (by rw [go_self]; rfl) ?_⟩⟩
        have s59 := s58.trans s9
        have lt9 := lt8.tk (Tk.same s9)
        clear eE e2 nE s8 s9 s7 s57 s58 lt8 lt7
        refine ⟨_, rfl, D, rfl, ⟨_, SqL.of (s59 _ _ eD)⟩, for_list (K := K) (a := D) (xs := ts.map V.ref) (fun i σ H6 => ∃ y6 y7 y8 : Option V, σ = [some (.ref a), some (.ref x), some (.ref dm), y3, some (.ref D), some (.ref t), y6, y7, y8, none] ∧ Same H5 H6 ∧ Lyt K H6 t xs)
          ⟨_, _, _, rfl, s59, lt9⟩ (fun i σ H6 _ hP => ?_) (fun i y σ H6 hy hP => ?_) (fun σ H6 hP => ?_)⟩
        · obtain ⟨_, _, _, _, s6, _⟩ := hP
          exact SqL.of (s6 _ _ eD)
        · obtain ⟨y6, y7, y8, rfl, s6, lt6⟩ := hP
          obtain ⟨u, ys, rfl, lu6⟩ := tss hy s6
          have lys : (ys.map V.str).length = ys.length := List.length_map _
          refine ⟨_, rfl, u, rfl, ⟨_, lu6.at'⟩, fun E1 nE => lc_fl (walk_tup (K := K) (a := u) (xs := ys.map V.str)) (fun i => (ys.map fun n => !decide (n ∈ xs)).getD i false) (fun i => (ys.map fun n => V.int (layF R S n)).getD i .non) (by rw [lys]; exact small (show ys.length ≤ 1000 by have := lu6.len; omega) (by decide)) nE (fun H s => (lu6.tk (Tk.same s)).at') (fun i v H8 H8' N M hi s8 yy fin fin2 => ?_) fun H8 s8 eE => ?_⟩
          · obtain ⟨rfl, ev⟩ := yy
            rw [List.getElem?_map] at ev
            cases en : ys[i]? with
            | none => rw [en] at ev; cases ev
            | some n =>
              rw [en] at ev
              cases ev
              have ep : (ys.map fun n => !decide (n ∈ xs)).getD i false = !decide (n ∈ xs) := by
                rw [List.getD_eq_getElem?_getD, List.getElem?_map, en]
                rfl
              refine ⟨rfl, _, rfl, _, rfl, t, _, rfl, .inr (lt6.tk (Tk.same s8)).at', rfl, flat_strs xs, ?_⟩
              rw [inV_str, if_pos rfl]
              rw [ep] at fin fin2
              refine ⟨_, rfl, ite2 (fun e => ?_) (fun e => ?_)⟩
              · have := fin e _ (Same.refl _)
                rw [List.getD_eq_getElem?_getD, List.getElem?_map, en] at this
                exact ⟨_, rfl, _, rfl, dm, _, rfl, gt5 (lu6.mem n (List.mem_of_getElem? en)) (s6.trans s8), this⟩
              · exact fin2 (Bool.eq_false_iff.mpr e) _ (Same.refl _)
          rw [lys, filter_get] at eE
          have e2 : ((ys.filter fun n => !decide (n ∈ xs)).map fun n => V.int (layF R S n)) = ((ys.filter fun n => !decide (n ∈ xs)).map (layF R S)).map V.int := by rw [List.map_map]; rfl
          rw [e2] at eE
          have s58 := s6.trans s8
          have lt8 := lt6.tk (Tk.same s8)
          have lu8 := lu6.tk (Tk.same s8)
          refine ⟨E1, _, rfl, SqL.of eE, ?_⟩
          have edue : ((ys.filter fun n => !decide (n ∈ xs)).map (layF R S)).sum = goF R S xs ys := rfl
          rw [edue]
          -- going, way
          refine ⟨_, rfl, _, rfl, _, rfl, x, t, u, R, S, xs, ys, rfl, ly5.same s58, lt8.nms sf, lu8.nms sf, fun H9 s9 => ⟨_, rfl, rfl, _, rfl, iteNS rfl ?_⟩⟩
          have s59 := s58.trans s9
          have lt9 := lt8.tk (Tk.same s9)
          have lu9 := lu8.tk (Tk.same s9)
          refine ⟨_, rfl, _, rfl, _, rfl, x, t, u, R, S, xs, ys, rfl, ly5.same s59, lt9.nms sf, lu9.nms sf, fun H10 s10 => ?_⟩
          have s5a := s59.trans s10
          have lt10 := lt9.tk (Tk.same s10)
          have lu10 := lu9.tk (Tk.same s10)
          refine ⟨_, rfl, _, rfl, _, rfl, x, u, t, R, S, ys, xs, rfl, ly5.same s5a, lu10.nms sf, lt10.nms sf, fun H11 s11 => ⟨rfl, _, rfl, iteNS (by rw [Int.add_comm]) ?_⟩⟩
          have s5b := s5a.trans s11
          have lt11 := lt10.tk (Tk.same s11)
          have lu11 := lu10.tk (Tk.same s11)
          clear s58 s59 s5a s8 s9 s10 s11 lt8 lu8 lt9 lu9 lt10 lu10 eE e2 edue nE
          -- twice going
          refine ⟨_, rfl, _, _, rfl, rfl, .inl ⟨by decide, by decide⟩, _, rfl, _, rfl, x, t, R, S, xs, rfl, ly5.same s5b, lt11.nms sf, fun H12 s12 => ⟨_, _, rfl, rfl, ?_⟩⟩
          have s5c := s5b.trans s12
          have lt12 := lt11.tk (Tk.same s12)
          have lu12 := lu11.tk (Tk.same s12)
          refine ⟨_, rfl, _, rfl, _, rfl, x, t, u, R, S, xs, ys, rfl, ly5.same s5c, lt12.nms sf, lu12.nms sf, fun H13 s13 => ?_⟩
          have s5d := s5c.trans s13
          have lt13 := lt12.tk (Tk.same s13)
          have lu13 := lu12.tk (Tk.same s13)
          refine ⟨_, rfl, _, rfl, x, u, R, S, ys, rfl, ly5.same s5d, lu13.nms sf, fun H14 s14 => ⟨_, _, rfl, rfl, rfl, _, rfl, iteNS (congrArg V.int (go_back lt6.nd lt6.mem lu6.nd lu6.mem)) ?_⟩⟩
          have s5e := s5d.trans s14
          have lt14 := lt13.tk (Tk.same s14)
          have lu14 := lu13.tk (Tk.same s14)
          clear s5b s5c s5d s12 s13 s14 lt11 lu11 lt12 lu12 lt13 lu13
          -- the third
          refine ⟨_, rfl, D, rfl, ⟨_, SqL.of (s5e _ _ eD)⟩, for_list (K := K) (a := D) (xs := ts.map V.ref) (fun i σ H6 => ∃ y8 : Option V, σ = [some (.ref a), some (.ref x), some (.ref dm), y3, some (.ref D), some (.ref t), some (.ref u), some (.int (goF R S xs ys)), y8, none] ∧ Same H5 H6 ∧ Lyt K H6 t xs ∧ Lyt K H6 u ys)
            ⟨_, rfl, s5e, lt14, lu14⟩ (fun i σ H6 _ hP => ?_) (fun i y σ H6 hy hP => ?_) (fun σ H6 hP => ?_)⟩
          · obtain ⟨_, _, s6, _⟩ := hP
            exact SqL.of (s6 _ _ eD)
          · obtain ⟨y8, rfl, s6, lt6, lu6⟩ := hP
            obtain ⟨v, zs, rfl, lv6⟩ := tss hy s6
            refine ⟨_, rfl, _, rfl, _, rfl, x, t, v, R, S, xs, zs, rfl, ly5.same s6, lt6.nms sf, lv6.nms sf, fun H7 s7 => ?_⟩
            have s57 := s6.trans s7
            have lt7 := lt6.tk (Tk.same s7)
            have lu7 := lu6.tk (Tk.same s7)
            have lv7 := lv6.tk (Tk.same s7)
            refine ⟨_, rfl, _, rfl, _, rfl, x, t, u, R, S, xs, ys, rfl, ly5.same s57, lt7.nms sf, lu7.nms sf, fun H8 s8 => ?_⟩
            have s58 := s57.trans s8
            have lt8 := lt7.tk (Tk.same s8)
            have lu8 := lu7.tk (Tk.same s8)
            have lv8 := lv7.tk (Tk.same s8)
            refine ⟨_, rfl, _, rfl, _, rfl, x, u, v, R, S, ys, zs, rfl, ly5.same s58, lu8.nms sf, lv8.nms sf, fun H9 s9 => ?_⟩
            have tri := go_tri pos lt6.nd lt6.mem lu6.nd lu6.mem lv6.nd lv6.mem
            refine ⟨_, _, rfl, rfl, _, _, rfl, rfl, _, rfl, ite2 (fun e => ?_) (fun _ => ?_)⟩
            · exact absurd (of_decide_eq_true e) (by omega)
            · exact ⟨_, rfl, s58.trans s9, lt8.tk (Tk.same s9), lu8.tk (Tk.same s9)⟩
          · obtain ⟨y8, rfl, s6, lt6, lu6⟩ := hP
            exact ⟨_, _, _, rfl, s6, lt6⟩
        · obtain ⟨y6, y7, y8, rfl, s6, _⟩ := hP
          exact ⟨_, _, _, _, rfl, s6⟩
      · obtain ⟨_, _, _, _, rfl, _⟩ := hP
        exact q _
end
end K1
namespace K1
open PySem PySem.Spec PyProof.Rows L2 Ow
theorem kn_of {P : Program} {w : World} {K : PySem.W.Frag} {mg : Str → Option Value} {base : Heap} {k : Nat} {x qual : Str} {st : Stmt} {f : Addr} {fd : FuncData} {ps : List Str} {sp : Sp}
    (F : Fun K x qual st f fd) (g : mg x = some (.ref f)) (b : Binds K fd ps []) (ok : FnOk P w K mg base CX0 k f fd ps sp) : Kn P w K mg base k x ps sp := ⟨⟨f, fd, ok, g, F.kp, b⟩⟩
theorem all_mk {l : PySem.W.OpenLaw} {w : World} {K : PySem.W.Frag} {h : Heap} {mg : Str → Option Value} {fa : Addr} (X : K.In h) (G : h.Ns mainGlobals mg) (hfa : mg "law" = some (.ref fa))
    {f1 : Addr} {od1 an1 : Option Addr} {sl1 : Array (Option Value)} {oc1 kV1 dc1 pm1 cd1 ct1 : Value}
    {f2 : Addr} {od2 an2 : Option Addr} {sl2 : Array (Option Value)} {oc2 kV2 dc2 pm2 cd2 ct2 : Value}
    {f3 : Addr} {od3 an3 : Option Addr} {sl3 : Array (Option Value)} {oc3 kV3 dc3 pm3 cd3 ct3 : Value}
    {f4 : Addr} {od4 an4 : Option Addr} {sl4 : Array (Option Value)} {oc4 kV4 dc4 pm4 cd4 ct4 : Value}
    {f5 : Addr} {od5 an5 : Option Addr} {sl5 : Array (Option Value)} {oc5 kV5 dc5 pm5 cd5 ct5 : Value}
    {f6 : Addr} {od6 an6 : Option Addr} {sl6 : Array (Option Value)} {oc6 kV6 dc6 pm6 cd6 ct6 : Value}
    {f7 : Addr} {od7 an7 : Option Addr} {sl7 : Array (Option Value)} {oc7 kV7 dc7 pm7 cd7 ct7 : Value}
    {f8 : Addr} {od8 an8 : Option Addr} {sl8 : Array (Option Value)} {oc8 kV8 dc8 pm8 cd8 ct8 : Value}
    {f9 : Addr} {od9 an9 : Option Addr} {sl9 : Array (Option Value)} {oc9 kV9 dc9 pm9 cd9 ct9 : Value}
    {f10 : Addr} {od10 an10 : Option Addr} {sl10 : Array (Option Value)} {oc10 kV10 dc10 pm10 cd10 ct10 : Value}
    {f11 : Addr} {od11 an11 : Option Addr} {sl11 : Array (Option Value)} {oc11 kV11 dc11 pm11 cd11 ct11 : Value}
    {f12 : Addr} {od12 an12 : Option Addr} {sl12 : Array (Option Value)} {oc12 kV12 dc12 pm12 cd12 ct12 : Value}
    {f13 : Addr} {od13 an13 : Option Addr} {sl13 : Array (Option Value)} {oc13 kV13 dc13 pm13 cd13 ct13 : Value}
    {f14 : Addr} {od14 an14 : Option Addr} {sl14 : Array (Option Value)} {oc14 kV14 dc14 pm14 cd14 ct14 : Value}
    {f15 : Addr} {od15 an15 : Option Addr} {sl15 : Array (Option Value)} {oc15 kV15 dc15 pm15 cd15 ct15 : Value}
    (a1 : PySem.W.nsIn K mainGlobals "value_key" = some (some (.ref f1)))
    (l1 : K.lookup f1 = some ⟨oc1, od1, .func (PySem.W.fnOf "value_key" "value_key" (defArgs svalue_key) (defBody svalue_key) (defScope svalue_key) .none kV1 dc1 pm1 an1 cd1 ct1), sl1⟩) (c1 : PySem.W.codeIn K cd1 "value_key" = true) (k1 : PySem.W.keepIn K (.ref f1) = true)
    (a2 : PySem.W.nsIn K mainGlobals "row_key" = some (some (.ref f2)))
    (l2 : K.lookup f2 = some ⟨oc2, od2, .func (PySem.W.fnOf "row_key" "row_key" (defArgs srow_key) (defBody srow_key) (defScope srow_key) .none kV2 dc2 pm2 an2 cd2 ct2), sl2⟩) (c2 : PySem.W.codeIn K cd2 "row_key" = true) (k2 : PySem.W.keepIn K (.ref f2) = true)
    (a3 : PySem.W.nsIn K mainGlobals "place_of" = some (some (.ref f3)))
    (l3 : K.lookup f3 = some ⟨oc3, od3, .func (PySem.W.fnOf "place_of" "place_of" (defArgs splace_of) (defBody splace_of) (defScope splace_of) .none kV3 dc3 pm3 an3 cd3 ct3), sl3⟩) (c3 : PySem.W.codeIn K cd3 "place_of" = true) (k3 : PySem.W.keepIn K (.ref f3) = true)
    (a4 : PySem.W.nsIn K mainGlobals "put_fact" = some (some (.ref f4)))
    (l4 : K.lookup f4 = some ⟨oc4, od4, .func (PySem.W.fnOf "put_fact" "put_fact" (defArgs sput_fact) (defBody sput_fact) (defScope sput_fact) .none kV4 dc4 pm4 an4 cd4 ct4), sl4⟩) (c4 : PySem.W.codeIn K cd4 "put_fact" = true) (k4 : PySem.W.keepIn K (.ref f4) = true)
    (a5 : PySem.W.nsIn K mainGlobals "put_item" = some (some (.ref f5)))
    (l5 : K.lookup f5 = some ⟨oc5, od5, .func (PySem.W.fnOf "put_item" "put_item" (defArgs sput_item) (defBody sput_item) (defScope sput_item) .none kV5 dc5 pm5 an5 cd5 ct5), sl5⟩) (c5 : PySem.W.codeIn K cd5 "put_item" = true) (k5 : PySem.W.keepIn K (.ref f5) = true)
    (a6 : PySem.W.nsIn K mainGlobals "room_of" = some (some (.ref f6)))
    (l6 : K.lookup f6 = some ⟨oc6, od6, .func (PySem.W.fnOf "room_of" "room_of" (defArgs sroom_of) (defBody sroom_of) (defScope sroom_of) .none kV6 dc6 pm6 an6 cd6 ct6), sl6⟩) (c6 : PySem.W.codeIn K cd6 "room_of" = true) (k6 : PySem.W.keepIn K (.ref f6) = true)
    (a7 : PySem.W.nsIn K mainGlobals "laying" = some (some (.ref f7)))
    (l7 : K.lookup f7 = some ⟨oc7, od7, .func (PySem.W.fnOf "laying" "laying" (defArgs slaying) (defBody slaying) (defScope slaying) .none kV7 dc7 pm7 an7 cd7 ct7), sl7⟩) (c7 : PySem.W.codeIn K cd7 "laying" = true) (k7 : PySem.W.keepIn K (.ref f7) = true)
    (a8 : PySem.W.nsIn K mainGlobals "stands" = some (some (.ref f8)))
    (l8 : K.lookup f8 = some ⟨oc8, od8, .func (PySem.W.fnOf "stands" "stands" (defArgs sstands) (defBody sstands) (defScope sstands) .none kV8 dc8 pm8 an8 cd8 ct8), sl8⟩) (c8 : PySem.W.codeIn K cd8 "stands" = true) (k8 : PySem.W.keepIn K (.ref f8) = true)
    (a9 : PySem.W.nsIn K mainGlobals "going" = some (some (.ref f9)))
    (l9 : K.lookup f9 = some ⟨oc9, od9, .func (PySem.W.fnOf "going" "going" (defArgs sgoing) (defBody sgoing) (defScope sgoing) .none kV9 dc9 pm9 an9 cd9 ct9), sl9⟩) (c9 : PySem.W.codeIn K cd9 "going" = true) (k9 : PySem.W.keepIn K (.ref f9) = true)
    (a10 : PySem.W.nsIn K mainGlobals "way" = some (some (.ref f10)))
    (l10 : K.lookup f10 = some ⟨oc10, od10, .func (PySem.W.fnOf "way" "way" (defArgs sway) (defBody sway) (defScope sway) .none kV10 dc10 pm10 an10 cd10 ct10), sl10⟩) (c10 : PySem.W.codeIn K cd10 "way" = true) (k10 : PySem.W.keepIn K (.ref f10) = true)
    (a11 : PySem.W.nsIn K mainGlobals "_law_draw" = some (some (.ref f11)))
    (l11 : K.lookup f11 = some ⟨oc11, od11, .func (PySem.W.fnOf "_law_draw" "_law_draw" (defArgs s_law_draw) (defBody s_law_draw) (defScope s_law_draw) .none kV11 dc11 pm11 an11 cd11 ct11), sl11⟩) (c11 : PySem.W.codeIn K cd11 "_law_draw" = true) (k11 : PySem.W.keepIn K (.ref f11) = true)
    (a12 : PySem.W.nsIn K mainGlobals "_law_value" = some (some (.ref f12)))
    (l12 : K.lookup f12 = some ⟨oc12, od12, .func (PySem.W.fnOf "_law_value" "_law_value" (defArgs s_law_value) (defBody s_law_value) (defScope s_law_value) .none kV12 dc12 pm12 an12 cd12 ct12), sl12⟩) (c12 : PySem.W.codeIn K cd12 "_law_value" = true) (k12 : PySem.W.keepIn K (.ref f12) = true)
    (a13 : PySem.W.nsIn K mainGlobals "_law_layout" = some (some (.ref f13)))
    (l13 : K.lookup f13 = some ⟨oc13, od13, .func (PySem.W.fnOf "_law_layout" "_law_layout" (defArgs s_law_layout) (defBody s_law_layout) (defScope s_law_layout) .none kV13 dc13 pm13 an13 cd13 ct13), sl13⟩) (c13 : PySem.W.codeIn K cd13 "_law_layout" = true) (k13 : PySem.W.keepIn K (.ref f13) = true)
    (a14 : PySem.W.nsIn K mainGlobals "_law_state" = some (some (.ref f14)))
    (l14 : K.lookup f14 = some ⟨oc14, od14, .func (PySem.W.fnOf "_law_state" "_law_state" (defArgs s_law_state) (defBody s_law_state) (defScope s_law_state) .none kV14 dc14 pm14 an14 cd14 ct14), sl14⟩) (c14 : PySem.W.codeIn K cd14 "_law_state" = true) (k14 : PySem.W.keepIn K (.ref f14) = true)
    (a15 : PySem.W.nsIn K mainGlobals "law" = some (some (.ref f15)))
    (l15 : K.lookup f15 = some ⟨oc15, od15, .func (PySem.W.fnOf "law" "law" (defArgs slaw) (defBody slaw) (defScope slaw) .none kV15 dc15 pm15 an15 cd15 ct15), sl15⟩) (c15 : PySem.W.codeIn K cd15 "law" = true) (k15 : PySem.W.keepIn K (.ref f15) = true)
    {C fI TT A0 : Addr} {odI anI odT : Option Addr} {slI slT slA : Array (Option Value)} {ocI kVI dcI pmI cdI ctI ocT : Value} {nT nA : Nat}
    (aC : PySem.W.nsIn K mainGlobals "State" = some (some (.ref C)))
    (aI : PySem.W.findIn K (.ref C) "__init__" = some (some (.ref fI))) (iI : PySem.W.isFn K (.ref fI) = true)
    (lI : K.lookup fI = some ⟨ocI, odI, .func (PySem.W.fnOf "__init__" "State.__init__" (defArgs sInit) (defBody sInit) (defScope sInit) (.ref TT) kVI dcI pmI anI cdI ctI), slI⟩) (cI : PySem.W.codeIn K cdI "State.__init__" = true) (kI : PySem.W.keepIn K (.ref fI) = true)
    (lT : K.lookup TT = some ⟨ocT, odT, .seq #[.ref A0] nT, slT⟩) (lA : K.lookup A0 = some ⟨.type "tuple", none, .seq #[] nA, slA⟩)
    (pg : PySem.W.plainGet K C Str.empty = true) (hd : PySem.W.hasDictIn K C = true) (po : PySem.W.plainOver K C = true) (sa : PySem.W.findIn K (.ref C) "__setattr__" = some (some (.builtin "object.__setattr__"))) (mk : PySem.W.makesIn K C = true) (kc : PySem.W.keepIn K (.ref C) = true)
    (nR : PySem.W.findIn K (.ref C) "relations" = some none) (nF : PySem.W.findIn K (.ref C) "facts" = some none) (nS : PySem.W.findIn K (.ref C) "structures" = some none) (nL : PySem.W.findIn K (.ref C) "layouts" = some none)
    (z1 : PySem.W.nsIn K mainGlobals "range" = some none) (z2 : PySem.W.nsIn K mainGlobals "len" = some none) (z3 : PySem.W.nsIn K mainGlobals "int" = some none) (z4 : PySem.W.nsIn K mainGlobals "str" = some none) (z5 : PySem.W.nsIn K mainGlobals "bool" = some none) (z6 : PySem.W.nsIn K mainGlobals "list" = some none) (z7 : PySem.W.nsIn K mainGlobals "tuple" = some none) (z8 : PySem.W.nsIn K mainGlobals "dict" = some none) (z9 : PySem.W.nsIn K mainGlobals "isinstance" = some none) (z10 : PySem.W.nsIn K mainGlobals "min" = some none) (z11 : PySem.W.nsIn K mainGlobals "sum" = some none) (z12 : PySem.W.nsIn K mainGlobals "sorted" = some none) (z13 : PySem.W.nsIn K mainGlobals "ord" = some none) :
    ∃ fd : FuncData, (∀ (s : Shared) (v : Value), BindsTo s fd ⟨[v], []⟩ [("script", v)]) ∧ ∀ base : Heap, K.In base → base.Ns mainGlobals mg → FnOk l.prog w K mg base CX0 9 fa fd ["script"] (spLaw K) := by
  have e := hfa.symm.trans (PySem.W.mg_of X G a15)
  cases e
  have F1 := fun_mk (st := svalue_key) l1 c1 k1
  have b1 := F1.binds (ps := ["value"]) fun _ _ _ _ _ _ us hl => match us, hl with | [_], _ => rfl
  have g1 := PySem.W.mg_of X G a1
  have F2 := fun_mk (st := srow_key) l2 c2 k2
  have b2 := F2.binds (ps := ["row"]) fun _ _ _ _ _ _ us hl => match us, hl with | [_], _ => rfl
  have g2 := PySem.W.mg_of X G a2
  have F3 := fun_mk (st := splace_of) l3 c3 k3
  have b3 := F3.binds (ps := ["rows", "row"]) fun _ _ _ _ _ _ us hl => match us, hl with | [_, _], _ => rfl
  have g3 := PySem.W.mg_of X G a3
  have F4 := fun_mk (st := sput_fact) l4 c4 k4
  have b4 := F4.binds (ps := ["state", "name", "row"]) fun _ _ _ _ _ _ us hl => match us, hl with | [_, _, _], _ => rfl
  have g4 := PySem.W.mg_of X G a4
  have F5 := fun_mk (st := sput_item) l5 c5 k5
  have b5 := F5.binds (ps := ["state", "item"]) fun _ _ _ _ _ _ us hl => match us, hl with | [_, _], _ => rfl
  have g5 := PySem.W.mg_of X G a5
  have F6 := fun_mk (st := sroom_of) l6 c6 k6
  have b6 := F6.binds (ps := ["state", "name"]) fun _ _ _ _ _ _ us hl => match us, hl with | [_, _], _ => rfl
  have g6 := PySem.W.mg_of X G a6
  have F7 := fun_mk (st := slaying) l7 c7 k7
  have b7 := F7.binds (ps := ["state", "structure"]) fun _ _ _ _ _ _ us hl => match us, hl with | [_, _], _ => rfl
  have g7 := PySem.W.mg_of X G a7
  have F8 := fun_mk (st := sstands) l8 c8 k8
  have b8 := F8.binds (ps := ["state", "layout"]) fun _ _ _ _ _ _ us hl => match us, hl with | [_, _], _ => rfl
  have g8 := PySem.W.mg_of X G a8
  have F9 := fun_mk (st := sgoing) l9 c9 k9
  have b9 := F9.binds (ps := ["state", "first", "second"]) fun _ _ _ _ _ _ us hl => match us, hl with | [_, _, _], _ => rfl
  have g9 := PySem.W.mg_of X G a9
  have F10 := fun_mk (st := sway) l10 c10 k10
  have b10 := F10.binds (ps := ["state", "first", "second"]) fun _ _ _ _ _ _ us hl => match us, hl with | [_, _, _], _ => rfl
  have g10 := PySem.W.mg_of X G a10
  have F11 := fun_mk (st := s_law_draw) l11 c11 k11
  have b11 := F11.binds (ps := ["script", "k"]) fun _ _ _ _ _ _ us hl => match us, hl with | [_, _], _ => rfl
  have g11 := PySem.W.mg_of X G a11
  have F12 := fun_mk (st := s_law_value) l12 c12 k12
  have b12 := F12.binds (ps := ["number"]) fun _ _ _ _ _ _ us hl => match us, hl with | [_], _ => rfl
  have g12 := PySem.W.mg_of X G a12
  have F13 := fun_mk (st := s_law_layout) l13 c13 k13
  have b13 := F13.binds (ps := ["number"]) fun _ _ _ _ _ _ us hl => match us, hl with | [_], _ => rfl
  have g13 := PySem.W.mg_of X G a13
  have F14 := fun_mk (st := s_law_state) l14 c14 k14
  have b14 := F14.binds (ps := ["script", "start"]) fun _ _ _ _ _ _ us hl => match us, hl with | [_, _], _ => rfl
  have g14 := PySem.W.mg_of X G a14
  have F15 := fun_mk (st := slaw) l15 c15 k15
  have T : Bl mg := ⟨PySem.W.mg_none_of X G z1, PySem.W.mg_none_of X G z2, PySem.W.mg_none_of X G z3, PySem.W.mg_none_of X G z4, PySem.W.mg_none_of X G z5, PySem.W.mg_none_of X G z6, PySem.W.mg_none_of X G z7, PySem.W.mg_none_of X G z8, PySem.W.mg_none_of X G z9, PySem.W.mg_none_of X G z10, PySem.W.mg_none_of X G z11, PySem.W.mg_none_of X G z12, PySem.W.mg_none_of X G z13⟩
  have X : Txt K mg C := ⟨⟨pg, hd, po, sa⟩, nR, nF, nS, nL, PySem.W.mg_of X G aC⟩
  have FI : FunD K "__init__" "State.__init__" (defArgs sInit) (defBody sInit) (defScope sInit) [V.ref A0] [] fI (PySem.W.fnOf "__init__" "State.__init__" (defArgs sInit) (defBody sInit) (defScope sInit) (.ref TT) kVI dcI pmI anI cdI ctI) :=
    ⟨⟨ocI, odI, .ref TT, kVI, dcI, pmI, anI, cdI, ctI, slI, rfl, lI, cI, .inr ⟨by simp, TT, _, [.ref A0], nT, rfl, lT, rfl, .cons rfl .nil⟩, .inl rfl⟩, kI⟩
  obtain ⟨d1, v1, bI⟩ := FI.binds1 (ps := ["self", "items"]) 2 1 (by simp) rfl fun T kV doc pm an cdv ct us its hu hi => match us, its, hu, hi with | [_, _], [_], _, _ => ⟨_, rfl, rfl⟩
  obtain ⟨d0, v0, bI0⟩ := FI.binds1 (ps := ["self", "items"]) 1 0 (by simp) rfl fun T kV doc pm an cdv ct us its hu hi => match us, its, hu, hi with | [_], [_], _, _ => ⟨_, rfl, rfl⟩
  have e1 : d1 = [] := by cases v1; rfl
  subst e1
  have hA0 : ∀ H : Hp, SqT K H A0 [] := fun H => .inr ⟨_, #[], nA, lA, rfl, rfl, Nat.zero_le _, .nil⟩
  refine ⟨PySem.W.fnOf "law" "law" (defArgs slaw) (defBody slaw) (defScope slaw) .none kV15 dc15 pm15 an15 cd15 ct15, fun s v => .of_eq rfl, fun base _ _ => ?_⟩
  have Dvalue_key : Kn l.prog w K mg base 1 "value_key" ["value"] (spVKey K) := kn_of F1 g1 b1 (ok_vkey F1 T)
  have Drow_key : Kn l.prog w K mg base 2 "row_key" ["row"] (spRKey K) := kn_of F2 g2 b2 (ok_rkey F2 T Dvalue_key)
  have Dplace_of : Kn l.prog w K mg base 3 "place_of" ["rows", "row"] (spPlace K) := kn_of F3 g3 b3 (ok_place F3 T Drow_key)
  have Dput_fact : Kn l.prog w K mg base 4 "put_fact" ["state", "name", "row"] (spPutFact K C) := kn_of F4 g4 b4 (ok_putfact F4 T X Dplace_of)
  have Dput_item : Kn l.prog w K mg base 5 "put_item" ["state", "item"] (spPutItem K C) := kn_of F5 g5 b5 (ok_putitem F5 T X Dput_fact)
  have St : Sta l.prog w K mg base C := ⟨fI, _, A0, d0, ⟨mk, aI, iI, kc⟩, ok_init FI X Dput_item, ok_init0 FI X Dput_item, bI, bI0, v0, hA0⟩
  have Droom_of : Kn l.prog w K mg base 1 "room_of" ["state", "name"] (spRoomOf K C) := kn_of F6 g6 b6 (ok_roomof F6 T X)
  have Dlaying : Kn l.prog w K mg base 2 "laying" ["state", "structure"] (spLaying K C) := kn_of F7 g7 b7 (ok_laying F7 X Droom_of)
  have Dstands : Kn l.prog w K mg base 3 "stands" ["state", "layout"] (spStands K C) := kn_of F8 g8 b8 (ok_stands F8 T Dlaying)
  have Dgoing : Kn l.prog w K mg base 3 "going" ["state", "first", "second"] (spGoing K C) := kn_of F9 g9 b9 (ok_going F9 T Dlaying)
  have Dway : Kn l.prog w K mg base 4 "way" ["state", "first", "second"] (spWay K C) := kn_of F10 g10 b10 (ok_way F10 Dgoing)
  have D_law_draw : Kn l.prog w K mg base 1 "_law_draw" ["script", "k"] (spDraw K) := kn_of F11 g11 b11 (ok_draw F11 T)
  have D_law_value : Kn l.prog w K mg base 1 "_law_value" ["number"] (spLValue) := kn_of F12 g12 b12 (ok_lvalue F12 T)
  have D_law_layout : Kn l.prog w K mg base 1 "_law_layout" ["number"] (spLayout K) := kn_of F13 g13 b13 (ok_layout F13 T)
  have D_law_state : Kn l.prog w K mg base 8 "_law_state" ["script", "start"] (spState K C) := kn_of F14 g14 b14 (ok_state F14 T X St D_law_draw D_law_value)
  exact ok_law F15 T X D_law_draw D_law_layout D_law_state Dlaying Dstands Dgoing Dway
end K1
open PySem PySem.W PyProof.Rows
set_option maxHeartbeats 0 in
theorem PySem.Challenge.cw_turnshelves_k42_ways_between_layouts_holds : PySem.Challenge.rw_turnshelves_k42_ways_between_layouts.Holds := by
  w_on; o_law; k_head; (case hw => w_witness2)
  k_fill
  refine L2.walk_of (l := PySem.Challenge.rw_turnshelves_k42_ways_between_layouts) (n := 63) (k := 9) (x := "script") (CX := fun _ => L2.CX0) (sp := fun w => K1.spLaw _) rfl (by decide) rfl ⟨rfl, by decide, by decide⟩ (fun w h Y => PySem.W.kIn_of Y) ?F (fun _ _ a ns hl _ hS => ⟨a, ns, rfl, hS, hl, fun _ => rfl⟩) (fun _ _ _ _ _ h => h)
  case F =>
    intro w mg fa h KX G hmg
    refine' K1.all_mk KX G hmg ?a1 ?l1 ?c1 ?k1 ?a2 ?l2 ?c2 ?k2 ?a3 ?l3 ?c3 ?k3 ?a4 ?l4 ?c4 ?k4 ?a5 ?l5 ?c5 ?k5 ?a6 ?l6 ?c6 ?k6 ?a7 ?l7 ?c7 ?k7 ?a8 ?l8 ?c8 ?k8 ?a9 ?l9 ?c9 ?k9 ?a10 ?l10 ?c10 ?k10 ?a11 ?l11 ?c11 ?k11 ?a12 ?l12 ?c12 ?k12 ?a13 ?l13 ?c13 ?k13 ?a14 ?l14 ?c14 ?k14 ?a15 ?l15 ?c15 ?k15 ?aC ?aI ?iI ?lI ?cI ?kI ?lT ?lA ?pg ?hd ?po ?sa ?mk ?kc ?nR ?nF ?nS ?nL ?z1 ?z2 ?z3 ?z4 ?z5 ?z6 ?z7 ?z8 ?z9 ?z10 ?z11 ?z12 ?z13
    (case a1 => k_is); (case l1 => k_is); (case c1 => k_is); (case k1 => k_is); (case a2 => k_is); (case l2 => k_is); (case c2 => k_is); (case k2 => k_is); (case a3 => k_is); (case l3 => k_is); (case c3 => k_is); (case k3 => k_is); (case a4 => k_is); (case l4 => k_is); (case c4 => k_is); (case k4 => k_is); (case a5 => k_is); (case l5 => k_is); (case c5 => k_is); (case k5 => k_is); (case a6 => k_is); (case l6 => k_is); (case c6 => k_is); (case k6 => k_is); (case a7 => k_is); (case l7 => k_is); (case c7 => k_is); (case k7 => k_is); (case a8 => k_is); (case l8 => k_is); (case c8 => k_is); (case k8 => k_is); (case a9 => k_is); (case l9 => k_is); (case c9 => k_is); (case k9 => k_is); (case a10 => k_is); (case l10 => k_is); (case c10 => k_is); (case k10 => k_is); (case a11 => k_is); (case l11 => k_is); (case c11 => k_is); (case k11 => k_is); (case a12 => k_is); (case l12 => k_is); (case c12 => k_is); (case k12 => k_is); (case a13 => k_is); (case l13 => k_is); (case c13 => k_is); (case k13 => k_is); (case a14 => k_is); (case l14 => k_is); (case c14 => k_is); (case k14 => k_is); (case a15 => k_is); (case l15 => k_is); (case c15 => k_is); (case k15 => k_is); (case aC => k_is); (case aI => k_is); (case iI => k_is); (case lI => k_is); (case cI => k_is); (case kI => k_is); (case lT => k_is); (case lA => k_is); (case pg => k_is); (case hd => k_is); (case po => k_is); (case sa => k_is); (case mk => k_is); (case kc => k_is); (case nR => k_is); (case nF => k_is); (case nS => k_is); (case nL => k_is); (case z1 => k_is); (case z2 => k_is); (case z3 => k_is); (case z4 => k_is); (case z5 => k_is); (case z6 => k_is); (case z7 => k_is); (case z8 => k_is); (case z9 => k_is); (case z10 => k_is); (case z11 => k_is); (case z12 => k_is); (case z13 => k_is)
