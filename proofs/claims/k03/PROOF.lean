import PyProof.Rows.All
import Wide.All
import OpenK.AllK
import Wide.FinOn
import PyProof.EqAt
import PyProof.EqKinds
import PyProof.TupleCall
import HandS.ForMost
import HandS.IsInst
import HandS.TupAny
import HandS.Strs
import HandS.Replace
import HandS.SetKeys
import HandS.Style
import HandS.Deep
import HandS.TupLen
import HandS.More
import HandS.Walk
import HandS.Defaults
import HandS.Star
import HandS.DictComp
import HandS.TryOnly
import HandS.DictTup
import KE.KDictKeyed
import KE.KDictWalk
import HandS.ForDict
import KE.KEqNest
import HandS.Flow
import PySem.Challenge.RW_turnshelves_k03_changes_between_states
set_option Elab.async false
set_option linter.all false
set_option maxRecDepth 100000
set_option maxHeartbeats 4000000
namespace Ow
open PySem PySem.Spec PyProof.Rows L2

/-- the def that the module's name x holds keeps sp, by k levels -/
structure Kn (P : Program) (w : World) (K : PySem.W.Frag) (mg : Str → Option Value) (base : Heap)
    (k : Nat) (x : Str) (ps : List Str) (sp : Sp) : Prop where
  ex : ∃ f fd, FnOk P w K mg base CX0 k f fd ps sp ∧ mg x = some (.ref f) ∧
    PySem.W.keepIn K (.ref f) = true ∧ Binds K fd ps []

theorem pe_kn {X : Cx} {k j : Nat} {x : Str} {ps : List Str} {sp : Sp} {p pos : Pos} {e : Expr}
    {es : List Expr} {t : TA} (c : Kn X.prog X.w X.K X.mg X.base k x ps sp) (hr : Room j X.A)
    (ha : PA X (e :: es) t) (hk : k ≤ j := by decide) (hg : Gl X x := by rfl)
    (hdb : (x == ("__debug__" : Str)) = false := by decide)
    (he : starEach (e :: es) X.env = (false, eval e X.env) :: starEach es X.env := by rfl)
    (hpl : (backTo pos (starEach es X.env)).any (·.1) = false := by rfl) :
    PE X (.Call (.Name x p) (e :: es) [] pos) (tCall sp [] E0 t) := by
  obtain ⟨f, fd, F, gm, kp, b⟩ := c.ex
  exact pe_call F (hr.mono hk) hg gm kp b .nil pass0 ha hdb he hpl

theorem hu64 {k : Nat} {A : Around} (hr : Room k A) : A.units + 64 < cLine := hr.units

/-- the heap but for what stands at p -/
def Gw (p : Addr) (H H' : Hp) : Prop := ∀ b o, b ≠ p → H b = some o → H' b = some o
theorem Gw.refl (p : Addr) (H : Hp) : Gw p H H := fun _ _ _ e => e
theorem Gw.trans {p : Addr} {H H1 H2 : Hp} (a : Gw p H H1) (b : Gw p H1 H2) : Gw p H H2 :=
  fun c o n e => b c o n (a c o n e)
theorem Gw.new {p q : Addr} {H : Hp} {o : HO} (n : H q = none) : Gw p H (upd H q o) :=
  fun b u _ e => by rw [upd_ne (ne_of_none e n)]; exact e
theorem Gw.put {p : Addr} {H : Hp} {o : HO} : Gw p H (upd H p o) :=
  fun b u nb e => by rw [upd_ne nb]; exact e
theorem Gw.same {p : Addr} {H H' : Hp} (s : Same H H') : Gw p H H' := fun b o _ e => s b o e
theorem Same.new {q : Addr} {H : Hp} {o : HO} (n : H q = none) : Same H (upd H q o) :=
  fun b u e => by rw [upd_ne (ne_of_none e n)]; exact e

/-- what a drawer keeps at p: its numbers (at d) and its place -/
def Rng (d : Addr) (H : Hp) (p : Addr) : Prop := ∃ (ds : List Int) (k : Int),
  H p = some (.lst [.ref d, .int k]) ∧ 0 ≤ k ∧ H d = some (.lst (ds.map V.int))
theorem Rng.ne {H : Hp} {p d : Addr} {k : Int} {ds : List Int} (h : H p = some (.lst [.ref d, .int k]))
    (g : H d = some (.lst (ds.map V.int))) : d ≠ p := by
  intro e
  subst e
  rw [h] at g
  injection g with g
  injection g with g
  cases ds with
  | nil => cases g
  | cons a r =>
    rw [List.map_cons] at g
    injection g with g1 _
    cases g1
theorem Rng.same {H H' : Hp} {p d : Addr} (r : Rng d H p) (s : Same H H') : Rng d H' p := by
  obtain ⟨ds, k, h, z, g⟩ := r
  exact ⟨ds, k, s _ _ h, z, s _ _ g⟩
theorem Rng.free {H : Hp} {p d q : Addr} (r : Rng d H p) (n : H q = none) : q ≠ p ∧ q ≠ d := by
  obtain ⟨ds, k, h, _, g⟩ := r
  exact ⟨(ne_of_none h n).symm, (ne_of_none g n).symm⟩
theorem Rng.upd {H : Hp} {p d q : Addr} {o : HO} (r : Rng d H p) (n : q ≠ p ∧ q ≠ d) : Rng d (L2.upd H q o) p := by
  obtain ⟨ds, k, h, z, g⟩ := r
  exact ⟨ds, k, by rw [upd_ne n.1.symm]; exact h, z, by rw [upd_ne n.2.symm]; exact g⟩

/-- a call that draws from p: whatever x it hands back, of which R tells -/
def Drw (p d : Addr) (H : Hp) (Q : VK) (R : V → Hp → Prop) : Prop :=
  ∀ x H', R x H' → Gw p H H' → Rng d H' p → Q x H'
theorem Gw.over {p o : Addr} {H H' : Hp} {u : HO} (g : Gw p H H') (n : H o = none) : Gw p H (upd H' o u) :=
  fun b x nb e => by rw [upd_ne (ne_of_none e n)]; exact g b x nb e
theorem Same.over {o : Addr} {H H' : Hp} {u : HO} (g : Same H H') (n : H o = none) : Same H (upd H' o u) :=
  fun b x e => by rw [upd_ne (ne_of_none e n)]; exact g b x e
theorem Gw.keep {p q : Addr} {H H' : Hp} {o : HO} (g : Gw p H H') (h : H q = some o) (n : q ≠ p) : H' q = some o := g q o n h
/-- what is free behind was free before -/
theorem Gw.free {p q : Addr} {H H' : Hp} (g : Gw p H H') (n : H' q = none) (ne : q ≠ p) : H q = none := by
  cases z : H q with
  | none => rfl
  | some o =>
    rw [g q o ne z] at n
    cases n
theorem small {n m : Nat} (h : n ≤ m) (hm : m ≤ 10000) : n < sizeLine :=
  Nat.lt_of_le_of_lt (Nat.le_trans h hm) (by decide)
end Ow
namespace Ow
open PySem PySem.Spec PyProof.Rows L2
theorem pget_list {X : Cx} : PGet X (rIxL X.K) := by
  intro pins s σ H o i ov iv Q I ro ri h
  obtain ⟨p, xs, n, v, rfl, rfl, hs, ha, q⟩ := h
  cases ro
  obtain ⟨t, rfl⟩ := ri
  obtain ⟨its, r, pl, hz⟩ := I.list hs
  obtain ⟨j, h1, h2, h3, h4, h5⟩ := atI_get ha
  obtain ⟨u, eu, ru⟩ := r.get h2
  have ln := line63
  have hl := r.length
  by_cases h0 : 0 ≤ n
  · have ej : n.toNat = j := by
      rw [seqIndex_of h0 h5] at h1
      exact Option.some.inj h1
    exact wpAny_getItem_list pl.isList h0 (by omega) (by rw [ej]; simpa using eu) ⟨v, H, I, ru, q⟩
  · have ej : (n + (its.toArray.size : Int)).toNat = j := by
      rw [seqIndex_neg (by omega) h4] at h1
      rw [List.size_toArray, ← hl]
      exact Option.some.inj h1
    exact wpAny_getItem_list_neg pl.isList (by omega) (by rw [List.size_toArray]; omega) (by omega)
      (by rw [ej]; simpa using eu) ⟨v, H, I, ru, q⟩
theorem at_in {α : Type} {xs : List α} {v : Int} (h0 : 0 ≤ v) (h1 : v < xs.length) : ∃ y, atI xs v = some y ∧ y ∈ xs := by
  have h : v.toNat < xs.length := by omega
  have e : v = ((v.toNat : Nat) : Int) := by omega
  refine ⟨xs[v.toNat], ?_, List.getElem_mem h⟩
  have z := atI_nat (xs := xs) (j := v.toNat) (List.getElem?_eq_getElem h)
  rw [← e] at z
  exact z
end Ow
namespace Ow
open PySem PySem.Spec PyProof.Rows L2
/-- a built-in class by its name -/
theorem pe_ty {X : Cx} (n : String) {x : Str} {pos : Pos} (hg : Gl X x) (hm : X.mg x = none) (hv : bootBuiltins x = some (.type n))
    (hn : x ≠ "__name__" := by decide) (hd : (x == ("__debug__" : Str)) = false := by decide) : PE X (.Name x pos) (tC (.ty n)) :=
  pe_bltn hg hm hv rfl hn hd
theorem sz (n : Nat) (h : n ≤ 1000 := by decide) : n ≤ sizeLine := Nat.le_trans h (by decide)
/-- a statement and the rest, with a word between -/
theorem pss_mid {X : Cx} {st : Stmt} {rest : List Stmt} {t u : TS} (a : PS X st t) (b : PSs X rest u) :
    PSs X (st :: rest) fun D σ H => ∃ Mid : L2.St → Hp → Prop, t { D with nx := Mid } σ H ∧ ∀ σ' H', Mid σ' H' → u D σ' H' := by
  refine ⟨fun pins s σ H D I ⟨Mid, hm, hu⟩ => ?_⟩
  refine wpAny_execs_cons (thn (a.run pins s σ H { D with nx := Mid } I hm) fun f s1 q => ?_)
  cases f with
  | next =>
    obtain ⟨σ', H', I', q⟩ := q
    exact b.run pins s1 σ' H' D I' (hu σ' H' q)
  | ret v => exact q
  | brk => exact q
  | cont => exact q
end Ow
namespace Tlz
open PySem PySem.SeqAt PySem.MeetsSeq PySem.MeetsSeq2 PySem.MeetsSeq3
open PySem.AutoSeq1 (wpAny_loadPart')

/-- x op y gives the answer k and leaves the state -/
def Rc (op : CmpOp) (A : Around) (s : Shared) (x y : Value) (k : Bool) : Prop :=
  ∀ (P : Program) (w : World) (E Q : Value → Shared → Prop), Q (.bool k) s →
    wpAny (model P w) A (richCompare op x y) Q E s

/-- the first of the next k places, from i on, that differs tells; fin if none does -/
def scan (eq ans : Nat → Bool) (fin : Bool) (i : Nat) : Nat → Bool
  | 0 => fin
  | k + 1 => cond (eq i) (scan eq ans fin (i + 1) k) (ans i)

theorem scan_eq {eq ans : Nat → Bool} {fin : Bool} {i k : Nat} (h : eq i = true) :
    scan eq ans fin i (k + 1) = scan eq ans fin (i + 1) k := by
  show cond (eq i) _ _ = _
  rw [h]; rfl
theorem scan_ne {eq ans : Nat → Bool} {fin : Bool} {i k : Nat} (h : eq i = false) :
    scan eq ans fin i (k + 1) = ans i := by
  show cond (eq i) _ _ = _
  rw [h]; rfl

theorem ltBody (a b : Addr) (us vs : Array Value) (n m : Nat) (da db : Option Addr)
    (sa sb : Array (Option Value)) (eq ans : Nat → Bool) :
    Meets (Builtin.«tuple.__lt__» ⟨[.ref a, .ref b], []⟩) (fun A R s =>
      s.heap.get? a = some ⟨.type "tuple", da, .seq us n, sa⟩ ∧
      s.heap.get? b = some ⟨.type "tuple", db, .seq vs m, sb⟩ ∧
      (∀ j (p : j < us.size) (q : j < vs.size), EqAt A.in1 s us[j] vs[j] (eq j)) ∧
      (∀ j (p : j < us.size) (q : j < vs.size), (∀ i, i < j → eq i = true) → eq j = false →
        Rc .Lt A.in1 s us[j] vs[j] (ans j)) ∧
      R (.ok (.ret (.bool (scan eq ans (decide (us.size < vs.size)) 0 (min us.size vs.size))))) s) :=
  .of_wp fun P w A R s ⟨ha, hb, he, hr, h⟩ => by
    obtain ⟨hp, g, d, tk, os⟩ := s
    have sub := AutoSeq1.sub_tuple_tuple
    have len : (us.toList.zip vs.toList).length = min us.size vs.size := by simp
    wp_walk using wpAny_loadPart' ha, wpAny_loadPart' hb, wpAny_forIn_list _ (fun rest c s' => c.1 = none ∧
      s' = ⟨hp, g, d, tk, os⟩ ∧ ∃ i, rest = (us.toList.zip vs.toList).drop i ∧ (∀ z, z < i → eq z = true) ∧
      R (.ok (.ret (.bool (scan eq ans (decide (us.size < vs.size)) i (min us.size vs.size - i))))) s') _
    case turn =>
      rintro ⟨y, x⟩ rest c s' ⟨hc, rfl, i, hz, pre, hR⟩
      have hi : i < min us.size vs.size := by
        rw [← len]
        apply Nat.lt_of_not_le
        intro z
        rw [List.drop_of_length_le z] at hz
        cases hz
      have p : i < us.size := by omega
      have q : i < vs.size := by omega
      rw [List.drop_eq_getElem_cons (by rw [len]; exact hi)] at hz
      injection hz with e1 e2
      have ey : y = us[i] := by simpa using congrArg Prod.fst e1
      have ex : x = vs[i] := by simpa using congrArg Prod.snd e1
      subst ey ex
      have cut : min us.size vs.size - i = min us.size vs.size - (i + 1) + 1 := by omega
      rw [cut] at hR
      refine wpAny_bind (he i p q P w _ _ ?_)
      by_cases k : eq i = true
      · rw [scan_eq k] at hR
        rw [k]
        wp_walk
        refine ⟨rfl, rfl, i + 1, e2, fun z hz => ?_, hR⟩
        by_cases t : z = i
        · rw [t]; exact k
        · exact pre z (by omega)
      · have k' : eq i = false := by simpa using k
        rw [scan_ne k'] at hR
        have r := hr i p q pre k' P w
        rw [k']
        wp_walk using r
        exact ⟨_, rfl, by simpa using hR⟩
    case fin =>
      rintro ⟨c1, c2⟩ s' ⟨hc, rfl, i, hz, pre, hR⟩
      have hc' : c1 = none := hc
      subst hc'
      have hi : min us.size vs.size ≤ i := by
        apply Nat.le_of_not_lt
        intro z
        rw [List.drop_eq_getElem_cons (by rw [len]; exact z)] at hz
        cases hz
      rw [Nat.sub_eq_zero_of_le hi] at hR
      wp_walk
      exact ⟨_, rfl, by simpa [Builtin.Tuple.tupleCompareSizes, scan] using hR⟩
    case h => exact ⟨rfl, rfl, 0, rfl, fun _ z => absurd z (Nat.not_lt_zero _), by simpa using h⟩

theorem gtBody (a b : Addr) (us vs : Array Value) (n m : Nat) (da db : Option Addr)
    (sa sb : Array (Option Value)) (eq ans : Nat → Bool) :
    Meets (Builtin.«tuple.__gt__» ⟨[.ref a, .ref b], []⟩) (fun A R s =>
      s.heap.get? a = some ⟨.type "tuple", da, .seq us n, sa⟩ ∧
      s.heap.get? b = some ⟨.type "tuple", db, .seq vs m, sb⟩ ∧
      (∀ j (p : j < us.size) (q : j < vs.size), EqAt A.in1 s us[j] vs[j] (eq j)) ∧
      (∀ j (p : j < us.size) (q : j < vs.size), (∀ i, i < j → eq i = true) → eq j = false →
        Rc .Gt A.in1 s us[j] vs[j] (ans j)) ∧
      R (.ok (.ret (.bool (scan eq ans (decide (us.size > vs.size)) 0 (min us.size vs.size))))) s) :=
  .of_wp fun P w A R s ⟨ha, hb, he, hr, h⟩ => by
    obtain ⟨hp, g, d, tk, os⟩ := s
    have sub := AutoSeq1.sub_tuple_tuple
    have len : (us.toList.zip vs.toList).length = min us.size vs.size := by simp
    wp_walk using wpAny_loadPart' ha, wpAny_loadPart' hb, wpAny_forIn_list _ (fun rest c s' => c.1 = none ∧
      s' = ⟨hp, g, d, tk, os⟩ ∧ ∃ i, rest = (us.toList.zip vs.toList).drop i ∧ (∀ z, z < i → eq z = true) ∧
      R (.ok (.ret (.bool (scan eq ans (decide (us.size > vs.size)) i (min us.size vs.size - i))))) s') _
    case turn =>
      rintro ⟨y, x⟩ rest c s' ⟨hc, rfl, i, hz, pre, hR⟩
      have hi : i < min us.size vs.size := by
        rw [← len]
        apply Nat.lt_of_not_le
        intro z
        rw [List.drop_of_length_le z] at hz
        cases hz
      have p : i < us.size := by omega
      have q : i < vs.size := by omega
      rw [List.drop_eq_getElem_cons (by rw [len]; exact hi)] at hz
      injection hz with e1 e2
      have ey : y = us[i] := by simpa using congrArg Prod.fst e1
      have ex : x = vs[i] := by simpa using congrArg Prod.snd e1
      subst ey ex
      have cut : min us.size vs.size - i = min us.size vs.size - (i + 1) + 1 := by omega
      rw [cut] at hR
      refine wpAny_bind (he i p q P w _ _ ?_)
      by_cases k : eq i = true
      · rw [scan_eq k] at hR
        rw [k]
        wp_walk
        refine ⟨rfl, rfl, i + 1, e2, fun z hz => ?_, hR⟩
        by_cases t : z = i
        · rw [t]; exact k
        · exact pre z (by omega)
      · have k' : eq i = false := by simpa using k
        rw [scan_ne k'] at hR
        have r := hr i p q pre k' P w
        rw [k']
        wp_walk using r
        exact ⟨_, rfl, by simpa using hR⟩
    case fin =>
      rintro ⟨c1, c2⟩ s' ⟨hc, rfl, i, hz, pre, hR⟩
      have hc' : c1 = none := hc
      subst hc'
      have hi : min us.size vs.size ≤ i := by
        apply Nat.le_of_not_lt
        intro z
        rw [List.drop_eq_getElem_cons (by rw [len]; exact z)] at hz
        cases hz
      rw [Nat.sub_eq_zero_of_le hi] at hR
      wp_walk
      exact ⟨_, rfl, by simpa [Builtin.Tuple.tupleCompareSizes, scan] using hR⟩
    case h => exact ⟨rfl, rfl, 0, rfl, fun _ z => absurd z (Nat.not_lt_zero _), by simpa using h⟩

theorem Rc.tupLt {A : Around} {s : Shared} {a b : Addr} {us vs : Array Value} {eq ans : Nat → Bool}
    (ta : s.heap.IsTuple a us) (tb : s.heap.IsTuple b vs) (hu : A.units < cLine)
    (he : ∀ j (p : j < us.size) (q : j < vs.size), EqAt A.in1 s us[j] vs[j] (eq j))
    (hr : ∀ j (p : j < us.size) (q : j < vs.size), (∀ i, i < j → eq i = true) → eq j = false →
      Rc .Lt A.in1 s us[j] vs[j] (ans j)) :
    Rc .Lt A s (.ref a) (.ref b) (scan eq ans (decide (us.size < vs.size)) 0 (min us.size vs.size)) := by
  intro P w E Q h
  obtain ⟨⟨c1, da, t1, sa⟩, ga, ca, n, ea⟩ := id ta
  obtain ⟨⟨c2, db, t2, sb⟩, gb, cb, m, eb⟩ := id tb
  have ca1 : c1 = Value.type "tuple" := ca
  have cb1 : c2 = Value.type "tuple" := cb
  have ea1 : t1 = .seq us n := ea
  have eb1 : t2 = .seq vs m := eb
  subst ca1 cb1 ea1 eb1
  exact richCompare_meets_room (op := .Lt) ⟨_, ga, rfl⟩ ⟨_, gb, rfl⟩ F.slot_tuple_lt F.entry_tuple_lt
    (F.args_tuple_lt_2 _ _) (ltBody a b us vs n m da db sa sb eq ans)
    ⟨ga, gb, he, hr, fun z => (nomatch z), h⟩ hu

theorem Rc.tupGt {A : Around} {s : Shared} {a b : Addr} {us vs : Array Value} {eq ans : Nat → Bool}
    (ta : s.heap.IsTuple a us) (tb : s.heap.IsTuple b vs) (hu : A.units < cLine)
    (he : ∀ j (p : j < us.size) (q : j < vs.size), EqAt A.in1 s us[j] vs[j] (eq j))
    (hr : ∀ j (p : j < us.size) (q : j < vs.size), (∀ i, i < j → eq i = true) → eq j = false →
      Rc .Gt A.in1 s us[j] vs[j] (ans j)) :
    Rc .Gt A s (.ref a) (.ref b) (scan eq ans (decide (us.size > vs.size)) 0 (min us.size vs.size)) := by
  intro P w E Q h
  obtain ⟨⟨c1, da, t1, sa⟩, ga, ca, n, ea⟩ := id ta
  obtain ⟨⟨c2, db, t2, sb⟩, gb, cb, m, eb⟩ := id tb
  have ca1 : c1 = Value.type "tuple" := ca
  have cb1 : c2 = Value.type "tuple" := cb
  have ea1 : t1 = .seq us n := ea
  have eb1 : t2 = .seq vs m := eb
  subst ca1 cb1 ea1 eb1
  exact richCompare_meets_room (op := .Gt) ⟨_, ga, rfl⟩ ⟨_, gb, rfl⟩ F.slot_tuple_gt F.entry_tuple_gt
    (F.args_tuple_gt_2 _ _) (gtBody a b us vs n m da db sa sb eq ans)
    ⟨ga, gb, he, hr, fun z => (nomatch z), h⟩ hu
end Tlz
namespace Tlz
open PySem PySem.SeqAt PyProof.Rows
def ltL (f : PyData → PyData → Bool) : List PyData → List PyData → Bool
  | [], [] => false
  | [], _ :: _ => true
  | _ :: _, [] => false
  | x :: xs, y :: ys => if PyData.eqv x y = true then ltL f xs ys else f x y
def gtL (f : PyData → PyData → Bool) : List PyData → List PyData → Bool
  | [], [] => false
  | [], _ :: _ => false
  | _ :: _, [] => true
  | x :: xs, y :: ys => if PyData.eqv x y = true then gtL f xs ys else f x y
/-- comparable as far as it is asked -/
def okL (f : PyData → PyData → Bool) : List PyData → List PyData → Bool
  | x :: xs, y :: ys => if PyData.eqv x y = true then okL f xs ys else f x y
  | [], _ => true
  | _ :: _, [] => true
def ltD : Nat → PyData → PyData → Bool
  | _, .int i, .int j => decide (i < j)
  | _, .str x, .str y => decide (x.cps.toList < y.cps.toList)
  | n + 1, .tuple xs, .tuple ys => ltL (ltD n) xs ys
  | _, _, _ => false
def gtD : Nat → PyData → PyData → Bool
  | _, .int i, .int j => decide (j < i)
  | _, .str x, .str y => decide (y.cps.toList < x.cps.toList)
  | n + 1, .tuple xs, .tuple ys => gtL (gtD n) xs ys
  | _, _, _ => false
def okD : Nat → PyData → PyData → Bool
  | _, .int _, .int _ => true
  | _, .str _, .str _ => true
  | n + 1, .tuple xs, .tuple ys => okL (okD n) xs ys
  | _, _, _ => false
abbrev at_ (xs : List PyData) (j : Nat) : PyData := xs.getD j .none
theorem scan_shift (eq ans : Nat → Bool) (fin : Bool) : ∀ k i : Nat,
    scan eq ans fin (i + 1) k = scan (fun j => eq (j + 1)) (fun j => ans (j + 1)) fin i k
  | 0, _ => rfl
  | k + 1, i => by
    show cond (eq (i + 1)) (scan eq ans fin (i + 1 + 1) k) (ans (i + 1)) = cond (eq (i + 1)) (scan _ _ fin (i + 1) k) (ans (i + 1))
    rw [scan_shift eq ans fin k (i + 1)]
theorem scan_lt (f : PyData → PyData → Bool) : ∀ xs ys : List PyData,
    scan (fun j => PyData.eqv (at_ xs j) (at_ ys j)) (fun j => f (at_ xs j) (at_ ys j)) (decide (xs.length < ys.length)) 0 (min xs.length ys.length) = ltL f xs ys
  | [], [] => rfl
  | [], _ :: ys => by simp [scan, ltL]
  | _ :: xs, [] => by simp [scan, ltL]
  | x :: xs, y :: ys => by
    have e : min (x :: xs).length (y :: ys).length = min xs.length ys.length + 1 := by
      rw [List.length_cons, List.length_cons]; omega
    have d : decide ((x :: xs).length < (y :: ys).length) = decide (xs.length < ys.length) := by
      rw [List.length_cons, List.length_cons]
      exact decide_eq_decide.mpr (by omega)
    rw [e, d]
    show cond (PyData.eqv x y) (scan _ _ _ (0 + 1) (min xs.length ys.length)) (f x y) = _
    rw [scan_shift]
    have ih := scan_lt f xs ys
    unfold ltL
    cases h : PyData.eqv x y with
    | true => exact ih
    | false => rfl
theorem scan_gt (f : PyData → PyData → Bool) : ∀ xs ys : List PyData,
    scan (fun j => PyData.eqv (at_ xs j) (at_ ys j)) (fun j => f (at_ xs j) (at_ ys j)) (decide (xs.length > ys.length)) 0 (min xs.length ys.length) = gtL f xs ys
  | [], [] => rfl
  | [], _ :: ys => by simp [scan, gtL]
  | _ :: xs, [] => by simp [scan, gtL]
  | x :: xs, y :: ys => by
    have e : min (x :: xs).length (y :: ys).length = min xs.length ys.length + 1 := by
      rw [List.length_cons, List.length_cons]; omega
    have d : decide ((x :: xs).length > (y :: ys).length) = decide (xs.length > ys.length) := by
      rw [List.length_cons, List.length_cons]
      exact decide_eq_decide.mpr (by omega)
    rw [e, d]
    show cond (PyData.eqv x y) (scan _ _ _ (0 + 1) (min xs.length ys.length)) (f x y) = _
    rw [scan_shift]
    have ih := scan_gt f xs ys
    unfold gtL
    cases h : PyData.eqv x y with
    | true => exact ih
    | false => rfl
theorem okL_at (f : PyData → PyData → Bool) : ∀ (xs ys : List PyData), okL f xs ys = true → ∀ j, j < xs.length → j < ys.length →
    (∀ i, i < j → PyData.eqv (at_ xs i) (at_ ys i) = true) → PyData.eqv (at_ xs j) (at_ ys j) = false → f (at_ xs j) (at_ ys j) = true
  | [], _, _, j, h, _, _, _ => absurd h (Nat.not_lt_zero _)
  | _ :: _, [], _, j, _, h, _, _ => absurd h (Nat.not_lt_zero _)
  | x :: xs, y :: ys, h, j, h1, h2, pre, ne => by
    unfold okL at h
    cases j with
    | zero =>
      have n : PyData.eqv x y = false := ne
      rw [n] at h
      exact h
    | succ j =>
      have p : PyData.eqv x y = true := pre 0 (Nat.succ_pos _)
      rw [p] at h
      exact okL_at f xs ys h j (by simpa using h1) (by simpa using h2) (fun i hi => pre (i + 1) (by omega)) ne
theorem reads_at {h : Heap} : ∀ {vs : List Value} {ds : List PyData} {as : List Addr}, ReadsAll h vs ds as → ∀ j (p : j < vs.length), ∃ bs, Reads h vs[j] (at_ ds j) bs
  | _, _, _, .nil, j, p => absurd p (Nat.not_lt_zero _)
  | _, _, _, .cons r _, 0, _ => ⟨_, r⟩
  | _, _, _, .cons _ t, j + 1, p => reads_at t j (by simpa using p)
theorem lay_at : ∀ (ds : List PyData), PyData.canLayAll0 ds = true → ∀ j, j < ds.length → (at_ ds j).canLay0 = true
  | [], _, j, p => absurd p (Nat.not_lt_zero _)
  | d :: ds, h, j, p => by
    unfold PyData.canLayAll0 at h
    rw [Bool.and_eq_true] at h
    cases j with
    | zero => exact h.1
    | succ j => exact lay_at ds h.2 j (by simpa using p)
theorem deep_at : ∀ (ds : List PyData) (n : Nat), PyData.depthAll ds ≤ n → ∀ j, (at_ ds j).depth ≤ n
  | [], n, _, j => by
    show (PyData.none).depth ≤ n
    exact Nat.zero_le _
  | d :: ds, n, h, j => by
    unfold PyData.depthAll at h
    cases j with
    | zero => exact Nat.le_trans (Nat.le_max_left _ _) h
    | succ j => exact deep_at ds n (Nat.le_trans (Nat.le_max_right _ _) h) j
theorem rcLt : ∀ (n : Nat) (d e : PyData) (A : Around) (s : Shared) (v u : Value) (as bs : List Addr), Reads s.heap v d as → Reads s.heap u e bs →
    d.canLay0 = true → e.canLay0 = true → d.depth ≤ n → okD n d e = true → A.units + n < cLine → Rc .Lt A s v u (ltD n d e) := by
  intro n
  induction n with
  | zero =>
    intro d e A s v u as bs rv ru cd ce dd ok hu
    cases rv with
    | int i t =>
      cases ru with
      | int j t' => exact fun _ _ _ _ h => PyProof.Rows.lt_int h
      | _ => exact absurd ok (by simp [okD])
    | str x t =>
      cases ru with
      | str y t' => exact fun _ _ _ _ h => PyProof.Rows.lt_str h
      | _ => exact absurd ok (by simp [okD])
    | _ => exact absurd ok (by simp [okD])
  | succ n ih =>
    intro d e A s v u as bs rv ru cd ce dd ok hu
    cases rv with
    | int i t =>
      cases ru with
      | int j t' => exact fun _ _ _ _ h => PyProof.Rows.lt_int h
      | _ => exact absurd ok (by simp [okD])
    | str x t =>
      cases ru with
      | str y t' => exact fun _ _ _ _ h => PyProof.Rows.lt_str h
      | _ => exact absurd ok (by simp [okD])
    | @tuple a o vs k xs as h1 h2 h3 h4 =>
      cases ru with
      | @tuple b o' ws k' ys bs g1 g2 g3 g4 =>
        have lx : vs.size = xs.length := by simpa using ReadsAll.lenAny h4
        have ly : ws.size = ys.length := by simpa using ReadsAll.lenAny g4
        have dx : PyData.depthAll xs ≤ n := by
          have z : PyData.depthAll xs + 1 ≤ n + 1 := dd
          omega
        have ok' : okL (okD n) xs ys = true := ok
        have R := Rc.tupLt (A := A) (eq := fun j => PyData.eqv (at_ xs j) (at_ ys j)) (ans := fun j => ltD n (at_ xs j) (at_ ys j)) (a := a) (b := b) (us := vs) (vs := ws) (s := s)
          ⟨_, h1, h2, _, h3⟩ ⟨_, g1, g2, _, g3⟩ (by omega) (fun j p q => by
            obtain ⟨_, r1⟩ := reads_at h4 j (by simpa using p)
            obtain ⟨_, r2⟩ := reads_at g4 j (by simpa using q)
            have := eqAt_reads _ _ A.in1 s _ _ _ _ r1 r2 (lay_at xs cd j (by omega)) (lay_at ys ce j (by omega)) (by
              have z := deep_at xs n dx j
              have zz : min (at_ xs j).depth (at_ ys j).depth ≤ (at_ xs j).depth := Nat.min_le_left _ _
              show A.units + 1 + _ < cLine
              omega)
            simpa using this) (fun j p q pre ne => by
            obtain ⟨_, r1⟩ := reads_at h4 j (by simpa using p)
            obtain ⟨_, r2⟩ := reads_at g4 j (by simpa using q)
            have := ih _ _ A.in1 s _ _ _ _ r1 r2 (lay_at xs cd j (by omega)) (lay_at ys ce j (by omega)) (deep_at xs n dx j)
              (okL_at (okD n) xs ys ok' j (by omega) (by omega) pre ne) (by
                show A.units + 1 + n < cLine
                omega)
            simpa using this)
        rw [lx, ly, scan_lt] at R
        exact R
      | _ => exact absurd ok (by simp [okD])
    | _ => exact absurd ok (by simp [okD])
theorem rcGt : ∀ (n : Nat) (d e : PyData) (A : Around) (s : Shared) (v u : Value) (as bs : List Addr), Reads s.heap v d as → Reads s.heap u e bs →
    d.canLay0 = true → e.canLay0 = true → d.depth ≤ n → okD n d e = true → A.units + n < cLine → Rc .Gt A s v u (gtD n d e) := by
  intro n
  induction n with
  | zero =>
    intro d e A s v u as bs rv ru cd ce dd ok hu
    cases rv with
    | int i t =>
      cases ru with
      | int j t' => exact fun _ _ _ _ h => PyProof.Rows.gt_int h
      | _ => exact absurd ok (by simp [okD])
    | str x t =>
      cases ru with
      | str y t' => exact fun _ _ _ _ h => PySem.P.gt_str h
      | _ => exact absurd ok (by simp [okD])
    | _ => exact absurd ok (by simp [okD])
  | succ n ih =>
    intro d e A s v u as bs rv ru cd ce dd ok hu
    cases rv with
    | int i t =>
      cases ru with
      | int j t' => exact fun _ _ _ _ h => PyProof.Rows.gt_int h
      | _ => exact absurd ok (by simp [okD])
    | str x t =>
      cases ru with
      | str y t' => exact fun _ _ _ _ h => PySem.P.gt_str h
      | _ => exact absurd ok (by simp [okD])
    | @tuple a o vs k xs as h1 h2 h3 h4 =>
      cases ru with
      | @tuple b o' ws k' ys bs g1 g2 g3 g4 =>
        have lx : vs.size = xs.length := by simpa using ReadsAll.lenAny h4
        have ly : ws.size = ys.length := by simpa using ReadsAll.lenAny g4
        have dx : PyData.depthAll xs ≤ n := by
          have z : PyData.depthAll xs + 1 ≤ n + 1 := dd
          omega
        have ok' : okL (okD n) xs ys = true := ok
        have R := Rc.tupGt (A := A) (eq := fun j => PyData.eqv (at_ xs j) (at_ ys j)) (ans := fun j => gtD n (at_ xs j) (at_ ys j)) (a := a) (b := b) (us := vs) (vs := ws) (s := s)
          ⟨_, h1, h2, _, h3⟩ ⟨_, g1, g2, _, g3⟩ (by omega) (fun j p q => by
            obtain ⟨_, r1⟩ := reads_at h4 j (by simpa using p)
            obtain ⟨_, r2⟩ := reads_at g4 j (by simpa using q)
            have := eqAt_reads _ _ A.in1 s _ _ _ _ r1 r2 (lay_at xs cd j (by omega)) (lay_at ys ce j (by omega)) (by
              have z := deep_at xs n dx j
              have zz : min (at_ xs j).depth (at_ ys j).depth ≤ (at_ xs j).depth := Nat.min_le_left _ _
              show A.units + 1 + _ < cLine
              omega)
            simpa using this) (fun j p q pre ne => by
            obtain ⟨_, r1⟩ := reads_at h4 j (by simpa using p)
            obtain ⟨_, r2⟩ := reads_at g4 j (by simpa using q)
            have := ih _ _ A.in1 s _ _ _ _ r1 r2 (lay_at xs cd j (by omega)) (lay_at ys ce j (by omega)) (deep_at xs n dx j)
              (okL_at (okD n) xs ys ok' j (by omega) (by omega) pre ne) (by
                show A.units + 1 + n < cLine
                omega)
            simpa using this)
        rw [lx, ly, scan_gt] at R
        exact R
      | _ => exact absurd ok (by simp [okD])
    | _ => exact absurd ok (by simp [okD])
end Tlz
namespace K1
open PySem PySem.Spec PyProof.Rows L2 Ow
def topS (i : Nat) : Stmt := PySem.Challenge.pw_turnshelves_k03_changes_between_states.main.body.getD i (.Pass ⟨0, 0, 0, 0⟩)
/-- the names that the top leaves alone -/
structure Bl (mg : Str → Option Value) : Prop where
  range : mg "range" = none
  len : mg "len" = none
  int : mg "int" = none
  str : mg "str" = none
  bool : mg "bool" = none
  list : mg "list" = none
  tuple : mg "tuple" = none
  dict : mg "dict" = none
  isinstance : mg "isinstance" = none
  min : mg "min" = none
  sum : mg "sum" = none
  sorted : mg "sorted" = none
  abs : mg "abs" = none
  ord : mg "ord" = none
end K1
namespace K1
open PySem PySem.Spec PyProof.Rows L2 Ow
/-- the signs of a text are those of values -/
def Pr (z : Str) : Prop := ∀ c ∈ z.cps.toList, 32 ≤ c ∧ c < 127 ∧ c ≠ 37
instance (z : Str) : Decidable (Pr z) := inferInstanceAs (Decidable (∀ c ∈ z.cps.toList, 32 ≤ c ∧ c < 127 ∧ c ≠ 37))
theorem joinL_mem : ∀ (ps : List (List Nat)) (c : Nat), c ∈ TL.joinL [] ps → ∃ p ∈ ps, c ∈ p
  | [], _, h => nomatch h
  | [p], c, h => ⟨p, List.mem_singleton.mpr rfl, h⟩
  | p :: q :: r, c, h => by
    have h' : c ∈ p ++ ([] ++ TL.joinL [] (q :: r)) := h
    rw [List.nil_append] at h'
    rcases List.mem_append.mp h' with z | z
    · exact ⟨p, List.mem_cons_self, z⟩
    · obtain ⟨x, m, i⟩ := joinL_mem (q :: r) c z
      exact ⟨x, List.mem_cons_of_mem _ m, i⟩
theorem joinL_len : ∀ (ps : List (List Nat)), (TL.joinL [] ps).length = (ps.map (·.length)).sum
  | [] => rfl
  | [p] => by simp [TL.joinL]
  | p :: q :: r => by
    have e : TL.joinL [] (p :: q :: r) = p ++ ([] ++ TL.joinL [] (q :: r)) := rfl
    rw [e, List.nil_append, List.length_append, joinL_len (q :: r)]
    rfl
theorem Pr.join {ys : List Str} (h : ∀ y ∈ ys, Pr y) : Pr (Txt.join (PySem.Str.ofString "") ys) := by
  intro c hc
  rw [TL.join_eq] at hc
  have h1 : c ∈ TL.joinL [] (ys.map fun z => z.cps.toList) := by
    have hc' : c ∈ TL.tl (Str.join (PySem.Str.ofString "") ys) := hc
    rw [TL.tl_join] at hc'
    exact hc'
  obtain ⟨p, m, i⟩ := joinL_mem _ _ h1
  obtain ⟨y, my, rfl⟩ := List.mem_map.mp m
  exact h y my c i
theorem join_size {ys : List Str} : (Txt.join (PySem.Str.ofString "") ys).length = (ys.map (·.length)).sum := by
  rw [TL.join_eq]
  have e : (TL.tl (Str.join (PySem.Str.ofString "") ys)).length = (Str.join (PySem.Str.ofString "") ys).length := by
    show (Str.join (PySem.Str.ofString "") ys).cps.toList.length = _
    rw [Array.length_toList]
    rfl
  rw [← e, TL.tl_join]
  show (TL.joinL [] (ys.map fun z => z.cps.toList)).length = _
  rw [joinL_len, List.map_map]
  congr 1
/-- a value of a row -/
def Scal (v : V) : Prop := (∃ i, v = .int i ∧ i.natAbs < 2 ^ 140) ∨ ∃ z, v = .str z ∧ Pr z ∧ z.length ≤ 200
def firstV : V → V → Bool
  | .int i, .int j => decide (i < j)
  | .int _, .str _ => true
  | .str _, .int _ => false
  | .str x, .str y => decide (x.cps.toList < y.cps.toList)
  | _, _ => false
def orderV : List V → List V → Int
  | [], [] => 0
  | [], _ :: _ => -1
  | _ :: _, [] => 1
  | x :: xs, y :: ys => if firstV x y = true then -1 else if firstV y x = true then 1 else orderV xs ys
def spMix : Sp := fun vs H Q _ => ∃ c k : Int, vs = [.int c, .int k] ∧
  ∀ v : Int, 0 ≤ v → v < 9973 → Q (.int v) H
def spDraws (K : PySem.W.Frag) : Sp := fun vs H Q _ => ∃ (a : Addr) (ns : List Int), vs = [.ref a] ∧
  SqL K H a (ns.map V.int) ∧ ns.length ≤ 63 ∧ ∀ (H' : Hp) (p : Addr) (ds : List Int), Same H H' → H p = none →
    H' p = some (.lst (ds.map V.int)) → Q (.ref p) H'
def spAt (K : PySem.W.Frag) : Sp := fun vs H Q _ => ∃ (d : Addr) (ds : List Int) (i : Int), vs = [.ref d, .int i] ∧
  SqL K H d (ds.map V.int) ∧ 0 ≤ i ∧ ∀ v : Int, Q (.int v) H
def spNext : Sp := fun vs H Q _ => ∃ (p d : Addr) (l : Int), vs = [.ref p, .int l] ∧ 0 < l ∧ Rng d H p ∧
  Drw p d H Q fun x _ => ∃ v : Int, x = .int v ∧ 0 ≤ v ∧ v < l
def spText : Sp := fun vs H Q _ => ∃ (p d : Addr) (m : Nat), vs = [.ref p, .int (m : Int)] ∧ m ≤ 1000 ∧ Rng d H p ∧
  Drw p d H Q fun x _ => ∃ z : Str, x = .str z ∧ Pr z ∧ z.length ≤ m
def spValue : Sp := fun vs H Q _ => ∃ p d : Addr, vs = [.ref p] ∧ Rng d H p ∧ Drw p d H Q fun x _ => Scal x
def spRow : Sp := fun vs H Q _ => ∃ (p d : Addr) (n : Nat), vs = [.ref p, .int (n : Int)] ∧ n ≤ 1000 ∧ Rng d H p ∧
  Drw p d H Q fun x H' => ∃ (q : Addr) (xs : List V), x = .ref q ∧ H' q = some (.tup xs) ∧ xs.length = n ∧ ∀ y ∈ xs, Scal y
def spName : Sp := fun vs H Q _ => ∃ p d : Addr, vs = [.ref p] ∧ Rng d H p ∧ Drw p d H Q fun x _ => ∃ z, x = .str z ∧ Pr z
def spFirst : Sp := fun vs H Q _ => ∃ a b : V, vs = [a, b] ∧ Scal a ∧ Scal b ∧ Q (.bl (firstV a b)) H
def spOrder (K : PySem.W.Frag) : Sp := fun vs H Q _ => ∃ (a b : Addr) (xs ys : List V), vs = [.ref a, .ref b] ∧
  SqT K H a xs ∧ SqT K H b ys ∧ xs.length ≤ 1000 ∧ (∀ x ∈ xs, Scal x) ∧ (∀ y ∈ ys, Scal y) ∧ Q (.int (orderV xs ys)) H
/-- a tuple whose object is known -/
def FT (H : Hp) (a : Addr) (xs : List V) : Prop := ∃ o : Obj, H a = some (.frz o (.tup xs)) ∧ o.dict = none ∧ o.cls = .type "tuple"
theorem FT.sq {K : PySem.W.Frag} {H : Hp} {a : Addr} {xs : List V} (h : FT H a xs) : SqT K H a xs := by
  obtain ⟨o, h, _⟩ := h
  exact .inl (.inr ⟨o, h⟩)
structure Tk (K : PySem.W.Frag) (H H' : Hp) : Prop where
  f : ∀ (a : Addr) (xs : List V), SqT K H a xs → SqT K H' a xs
  x : ∀ (a : Addr) (xs : List V), FT H a xs → FT H' a xs
instance {K : PySem.W.Frag} {H H' : Hp} : CoeFun (Tk K H H') (fun _ => ∀ (a : Addr) (xs : List V), SqT K H a xs → SqT K H' a xs) := ⟨Tk.f⟩
theorem Tk.same {K : PySem.W.Frag} {H H' : Hp} (s : Same H H') : Tk K H H' := by
  refine ⟨fun a xs h => ?_, fun a xs ⟨o, h, d⟩ => ⟨o, s _ _ h, d⟩⟩
  rcases h with (h | ⟨o, h⟩) | h
  · exact .inl (.inl (s _ _ h))
  · exact .inl (.inr ⟨o, s _ _ h⟩)
  · exact .inr h
theorem Tk.trans {K : PySem.W.Frag} {H H1 H2 : Hp} (a : Tk K H H1) (b : Tk K H1 H2) : Tk K H H2 := ⟨fun c xs h => b.f c xs (a.f c xs h), fun c xs h => b.x c xs (a.x c xs h)⟩
theorem Tk.gw {K : PySem.W.Frag} {H H' : Hp} {p : Addr} {us : List V} (e : H p = some (.lst us)) (g : Gw p H H') : Tk K H H' := by
  refine ⟨fun a xs h => ?_, fun a xs ⟨o, h, d⟩ => ⟨o, g _ _ (fun z => by rw [z, e] at h; cases h) h, d⟩⟩
  rcases h with (h | ⟨o, h⟩) | h
  · exact .inl (.inl (g _ _ (fun z => by rw [z, e] at h; cases h) h))
  · exact .inl (.inr ⟨o, g _ _ (fun z => by rw [z, e] at h; cases h) h⟩)
  · exact .inr h
theorem Tk.put {K : PySem.W.Frag} {H : Hp} {p : Addr} {us : List V} {o : HO} (e : H p = some (.lst us)) : Tk K H (upd H p o) := Tk.gw e Gw.put
/-- a def that makes something and keeps all else -/
def Mak (H : Hp) (Q : VK) (R : V → Hp → Prop) : Prop := ∀ x H', R x H' → Same H H' → Q x H'
theorem SqL.same {K : PySem.W.Frag} {H H' : Hp} {a : Addr} {xs : List V} (s : Same H H') (h : SqL K H a xs) : SqL K H' a xs := s.seq h
end K1
namespace Ow
open PySem PySem.Spec PyProof.Rows L2
theorem for_str {x : Str} {g : TG} {tb : TS} {D : Ends} {σ : L2.St} {H : Hp} (Pv : Nat → L2.St → Hp → Prop) (h0 : Pv 0 σ H)
    (hs : ∀ i c σ H, x.cps[i]? = some c → Pv i σ H → g (.str ⟨#[c]⟩) σ H fun σ2 H2 => tb { D with nx := Pv (i + 1), ct := Pv (i + 1), bk := D.nx } σ2 H2) (hd : ∀ σ H, Pv x.cps.size σ H → D.nx σ H) :
    ∃ W : Nat → Nat → L2.St → Hp → Prop, (∃ m, W 0 m σ H) ∧ ∀ i m σ H, W i m σ H →
      ((Its x).stop i H ∧ D.nx σ H) ∨ ((Its x).go i H ∧ ∃ N : L2.St → Hp → Prop, (∀ σ' H', N σ' H' → ∃ m', m' < m ∧ W (i + 1) m' σ' H') ∧ ∀ v H', (Its x).yld i H v H' → g v σ H' fun σ2 H2 => tb { D with nx := N, ct := N, bk := D.nx } σ2 H2) := by
  refine ⟨fun i m σ H => m = x.cps.size - i ∧ i ≤ x.cps.size ∧ Pv i σ H, ⟨x.cps.size, by simp, Nat.zero_le _, h0⟩, ?_⟩
  rintro i m σ H ⟨rfl, hi, p⟩
  by_cases hlt : i < x.cps.size
  · refine .inr ⟨hlt, Pv (i + 1), fun σ' H' p' => ⟨x.cps.size - (i + 1), by omega, rfl, hlt, p'⟩, fun v H' y => ?_⟩
    obtain ⟨rfl, c, ec, rfl⟩ := y
    exact hs i c σ _ ec p
  · have e : i = x.cps.size := by omega
    subst e
    exact .inl ⟨Nat.le_refl _, hd σ H p⟩
theorem lc_str {x : Str} {g : TG} {tt : TT} {te : TE} {vs : List Nat} {σ : L2.St} {H1 : Hp} {D : Addr} {Qd : Hp → Prop} (Pv : Nat → Hp → Prop) (h0 : Pv 0 (upd H1 D (.lst [])))
    (hs : ∀ i c H, x.cps[i]? = some c → Pv i H → g (.str ⟨#[c]⟩) (wipe σ vs) H fun σ2 H2 => wipe σ2 vs = wipe σ vs ∧ tt σ2 H2 fun b H3 =>
      if b = true then te σ2 H3 fun y H4 => ∃ acc, H4 D = some (.lst acc) ∧ acc.length < sizeLine ∧ Pv (i + 1) (upd H4 D (.lst (acc ++ [y]))) else Pv (i + 1) H3) (hd : ∀ H, Pv x.cps.size H → Qd H) :
    ∃ W : Nat → Nat → Hp → Prop, (∃ m, W 0 m (upd H1 D (.lst []))) ∧ ∀ i m H, W i m H →
      ((Its x).stop i H ∧ Qd H) ∨ ((Its x).go i H ∧ ∃ Nx : Hp → Prop, (∀ H', Nx H' → ∃ m', m' < m ∧ W (i + 1) m' H') ∧ ∀ v H', (Its x).yld i H v H' → g v (wipe σ vs) H' fun σ2 H2 => wipe σ2 vs = wipe σ vs ∧ tt σ2 H2 fun b H3 =>
        if b = true then te σ2 H3 fun y H4 => ∃ acc, H4 D = some (.lst acc) ∧ acc.length < sizeLine ∧ Nx (upd H4 D (.lst (acc ++ [y]))) else Nx H3) := by
  refine ⟨fun i m H => m = x.cps.size - i ∧ i ≤ x.cps.size ∧ Pv i H, ⟨x.cps.size, by simp, Nat.zero_le _, h0⟩, ?_⟩
  rintro i m H ⟨rfl, hi, p⟩
  by_cases hlt : i < x.cps.size
  · refine .inr ⟨hlt, Pv (i + 1), fun H' p' => ⟨x.cps.size - (i + 1), by omega, rfl, hlt, p'⟩, fun v H' y => ?_⟩
    obtain ⟨rfl, c, ec, rfl⟩ := y
    exact hs i c _ ec p
  · have e : i = x.cps.size := by omega
    subst e
    exact .inl ⟨Nat.le_refl _, hd H p⟩
/-- a text times a number -/
theorem op_mul_str {X : Cx} : OpR X (binaryOp .Mult) (fun x y H Q => ∃ z n, x = .str z ∧ y = .int n ∧ 1 ≤ z.length ∧ 0 ≤ n ∧ (z.length : Int) * n ≤ 10000 ∧ Q (.str (Txt.mul z n)) H) := by
  intro pins s σ H x y v u Q I rx ry h
  obtain ⟨z, n, rfl, rfl, h1, h0, hz, q⟩ := h
  obtain ⟨t, rfl⟩ := rx
  obtain ⟨t', rfl⟩ := ry
  have hn : n ≤ 10000 := by
    have : (1 : Int) * n ≤ (z.length : Int) * n := Int.mul_le_mul_of_nonneg_right (by omega) h0
    omega
  have hl : (z.length : Int) ≤ 10000 ∨ n < 1 := by
    by_cases hn0 : n < 1
    · exact .inr hn0
    · left
      have : (z.length : Int) * 1 ≤ (z.length : Int) * n := Int.mul_le_mul_of_nonneg_left (by omega) (by omega)
      omega
  refine SB.mul ⟨?_, ?_, ?_⟩ (fun t' k => ⟨.str (Txt.mul z n), H, I.tok _, ⟨_, rfl⟩, q⟩)
  · rw [decide_eq_false (by omega), decide_eq_false (by omega)]
    rfl
  · intro a _ b
    have c : (2 ^ 63 - 1 : Int) / n ≥ (2 ^ 63 - 1 : Int) / 10000 := by
      have h3 : (2 ^ 63 - 1 : Int) / 10000 * n ≤ 2 ^ 63 - 1 := by
        have : (2 ^ 63 - 1 : Int) / 10000 * n ≤ (2 ^ 63 - 1 : Int) / 10000 * 10000 := Int.mul_le_mul_of_nonneg_left hn (by decide)
        have h4 : (2 ^ 63 - 1 : Int) / 10000 * 10000 ≤ 2 ^ 63 - 1 := by decide
        omega
      exact (Int.le_ediv_iff_mul_le (by omega)).mpr h3
    have d : (2 ^ 63 - 1 : Int) / 10000 ≥ 10001 := by decide
    omega
  · intro a _
    have e : ((z.length * n.toNat : Nat) : Int) = (z.length : Int) * n := by
      rw [Int.natCast_mul, Int.toNat_of_nonneg h0]
    have e2 : z.length * n.toNat ≤ 10000 := by omega
    show decide _ = false
    exact decide_eq_false (by
      have : sizeLine = 16777216 := rfl
      omega)
end Ow
namespace Ow
open PySem PySem.Spec PyProof.Rows L2 Tlz
/-- two data at x, y, comparable to depth n -/
structure Cp (K : PySem.W.Frag) (H : Hp) (n : Nat) (x y : V) (d e : PyData) : Prop where
  l : Dp K H x d
  r : Dp K H y e
  cl : d.canLay0 = true
  cr : e.canLay0 = true
  dl : d.depth ≤ n
  dr : e.depth ≤ n
  ok : okD n d e = true
  n60 : n ≤ 60
def rLtK (K : PySem.W.Frag) : R2 := fun x y H Q => ∃ n d e, Cp K H n x y d e ∧ Q (.bl (ltD n d e)) H
def rGtK (K : PySem.W.Frag) : R2 := fun x y H Q => ∃ n d e, Cp K H n x y d e ∧ Q (.bl (gtD n d e)) H
theorem op_ltK {X : Cx} {k : Nat} (hr : Room k X.A) : OpR X (compareOp .Lt) (rLtK X.K) := by
  intro pins s σ H x y v u Q I rx ry h
  obtain ⟨n, d, e, c, q⟩ := h
  obtain ⟨as, r1⟩ := Dp.reads I d x v c.l rx
  obtain ⟨bs, r2⟩ := Dp.reads I e y u c.r ry
  have hu := hr.units
  have c6 := c.n60
  exact rcLt n d e X.A s v u as bs r1 r2 c.cl c.cr c.dl c.ok (by omega) X.prog X.w X.xe (EP X pins σ Q) ⟨.bl _, H, I, rfl, q⟩
theorem op_gtK {X : Cx} {k : Nat} (hr : Room k X.A) : OpR X (compareOp .Gt) (rGtK X.K) := by
  intro pins s σ H x y v u Q I rx ry h
  obtain ⟨n, d, e, c, q⟩ := h
  obtain ⟨as, r1⟩ := Dp.reads I d x v c.l rx
  obtain ⟨bs, r2⟩ := Dp.reads I e y u c.r ry
  have hu := hr.units
  have c6 := c.n60
  exact rcGt n d e X.A s v u as bs r1 r2 c.cl c.cr c.dl c.ok (by omega) X.prog X.w X.xe (EP X pins σ Q) ⟨.bl _, H, I, rfl, q⟩
theorem shaped_of {d : PyData} {n : Nat} (c : d.canLay0 = true) (h : d.depth ≤ n) (hn : n ≤ 60) : SeqAt.shaped d = true := by
  unfold SeqAt.shaped
  rw [c, decide_eq_true (show d.depth ≤ 64 by omega)]
  rfl
end Ow
namespace K1
open PySem PySem.Spec PyProof.Rows L2 Ow Tlz
/-- the key of a value, as data -/
def vkD : V → PyData
  | .int i => .tuple [.int 0, .int i]
  | .str z => .tuple [.int 1, .str z]
  | _ => .none
def rkD (xs : List V) : PyData := .tuple (xs.map vkD)
def kD (s : Int) (n : Str) (row : List V) : PyData := .tuple [.int s, .str n, rkD row]
def kd2 (s : Int) (n : Str) : PyData := .tuple [.int s, .str n]
/-- the order o tells what <, == and > say of d and e -/
structure Agr (n : Nat) (d e : PyData) (o : Int) : Prop where
  lt : ltD n d e = decide (o < 0)
  eq : PyData.eqv d e = decide (o = 0)
  gt : gtD n d e = decide (0 < o)
theorem str_tri (x y : Str) : (x == y) = (!decide (x.cps.toList < y.cps.toList) && !decide (y.cps.toList < x.cps.toList)) := by
  by_cases h : x = y
  · subst h
    have n : ¬ x.cps.toList < x.cps.toList := List.lt_irrefl _
    simp [n]
  · have e : (x == y) = false := by simpa using h
    rw [e]
    symm
    rw [Bool.and_eq_false_iff]
    apply Classical.byContradiction
    intro z
    apply h
    have z1 : ¬ x.cps.toList < y.cps.toList := fun w => z (.inl (by rw [decide_eq_true w]; rfl))
    have z2 : ¬ y.cps.toList < x.cps.toList := fun w => z (.inr (by rw [decide_eq_true w]; rfl))
    have e2 : x.cps.toList = y.cps.toList := List.le_antisymm z2 z1
    cases x
    cases y
    simp only [Str.mk.injEq]
    exact Array.toList_inj.mp e2
theorem eqv_int (i j : Int) : PyData.eqv (.int i) (.int j) = (i == j) := by rw [PyData.eqv]
theorem eqv_str (x y : Str) : PyData.eqv (.str x) (.str y) = (x == y) := by rw [PyData.eqv]
theorem eqv_tup (xs ys : List PyData) : PyData.eqv (.tuple xs) (.tuple ys) = PyData.eqvAll xs ys := by rw [PyData.eqv]
theorem eqv_cons (x y : PyData) (xs ys : List PyData) : PyData.eqvAll (x :: xs) (y :: ys) = (PyData.eqv x y && PyData.eqvAll xs ys) := by rw [PyData.eqvAll]
theorem eqv_nil : PyData.eqvAll [] [] = true := by rw [PyData.eqvAll]
theorem eqv_nc (y : PyData) (ys : List PyData) : PyData.eqvAll [] (y :: ys) = false := by rw [PyData.eqvAll]
theorem eqv_cn (x : PyData) (xs : List PyData) : PyData.eqvAll (x :: xs) [] = false := by rw [PyData.eqvAll]
theorem int_tri (i j : Int) : (i == j) = (!decide (i < j) && !decide (j < i)) := by
  by_cases h : i = j
  · subst h; simp
  · have e : (i == j) = false := by simpa using h
    rw [e]
    rcases Int.lt_or_gt_of_ne h with z | z
    · simp [z]
    · simp [z]
/-- the keys of two values -/
theorem vk_all {x y : V} (sx : Scal x) (sy : Scal y) (n : Nat) : okD (n + 1) (vkD x) (vkD y) = true ∧ ltD (n + 1) (vkD x) (vkD y) = firstV x y ∧ gtD (n + 1) (vkD x) (vkD y) = firstV y x ∧
    PyData.eqv (vkD x) (vkD y) = (!firstV x y && !firstV y x) := by
  rcases sx with ⟨i, rfl, _⟩ | ⟨x, rfl, _⟩ <;> rcases sy with ⟨j, rfl, _⟩ | ⟨y, rfl, _⟩
  · simp only [vkD, okD, ltD, gtD, okL, ltL, gtL, eqv_int, eqv_tup, eqv_cons, eqv_nil, firstV, beq_self_eq_true, if_true, Bool.true_and, Bool.and_true, ← int_tri]
    cases h : (i == j) with
    | true =>
      have e : i = j := by simpa using h
      subst e
      simp
    | false => simp
  · have e : ((0 : Int) == 1) = false := by decide
    simp only [vkD, okD, ltD, gtD, okL, ltL, gtL, eqv_int, eqv_tup, eqv_cons, eqv_nil, firstV, e, if_false, Bool.false_and, Bool.false_eq_true]
    decide
  · have e : ((1 : Int) == 0) = false := by decide
    simp only [vkD, okD, ltD, gtD, okL, ltL, gtL, eqv_int, eqv_tup, eqv_cons, eqv_nil, firstV, e, if_false, Bool.false_and, Bool.false_eq_true]
    decide
  · simp only [vkD, okD, ltD, gtD, okL, ltL, gtL, eqv_int, eqv_str, eqv_tup, eqv_cons, eqv_nil, firstV, beq_self_eq_true, if_true, Bool.true_and, Bool.and_true, ← str_tri]
    cases h : (x == y) with
    | true =>
      have e : x = y := by simpa using h
      subst e
      have n : ¬ x.cps.toList < x.cps.toList := List.lt_irrefl _
      simp [n]
    | false => simp
theorem first_asym {x y : V} (sx : Scal x) (sy : Scal y) (h : firstV x y = true) : firstV y x = false := by
  rcases sx with ⟨i, rfl, _⟩ | ⟨x, rfl, _⟩ <;> rcases sy with ⟨j, rfl, _⟩ | ⟨y, rfl, _⟩
  · have h' : i < j := of_decide_eq_true h
    exact decide_eq_false (by omega)
  · rfl
  · exact absurd (show false = true from h) Bool.false_ne_true
  · have h' : x.cps.toList < y.cps.toList := of_decide_eq_true h
    exact decide_eq_false (List.lt_asymm h')
/-- the keys of two rows -/
theorem rk_all (n : Nat) : ∀ (xs ys : List V), (∀ x ∈ xs, Scal x) → (∀ y ∈ ys, Scal y) →
    okL (okD (n + 1)) (xs.map vkD) (ys.map vkD) = true ∧ ltL (ltD (n + 1)) (xs.map vkD) (ys.map vkD) = decide (orderV xs ys < 0) ∧
    gtL (gtD (n + 1)) (xs.map vkD) (ys.map vkD) = decide (0 < orderV xs ys) ∧ PyData.eqvAll (xs.map vkD) (ys.map vkD) = decide (orderV xs ys = 0)
  | [], [], _, _ => ⟨rfl, rfl, rfl, by rw [List.map_nil, eqv_nil]; rfl⟩
  | [], y :: ys, _, _ => ⟨rfl, rfl, rfl, by rw [List.map_nil, List.map_cons, eqv_nc]; rfl⟩
  | x :: xs, [], _, _ => ⟨rfl, rfl, rfl, by rw [List.map_nil, List.map_cons, eqv_cn]; rfl⟩
  | x :: xs, y :: ys, hx, hy => by
    have sx := hx x List.mem_cons_self
    have sy := hy y List.mem_cons_self
    obtain ⟨a1, a2, a3, a4⟩ := vk_all sx sy n
    obtain ⟨b1, b2, b3, b4⟩ := rk_all n xs ys (fun z m => hx z (List.mem_cons_of_mem _ m)) (fun z m => hy z (List.mem_cons_of_mem _ m))
    rw [List.map_cons, List.map_cons]
    unfold okL ltL gtL orderV
    rw [eqv_cons, a4, a2, a3, a1, b1, b2, b3, b4]
    cases h : firstV x y with
    | true =>
      have h2 := first_asym sx sy h
      rw [h2]
      simp
    | false =>
      cases h2 : firstV y x with
      | true => simp
      | false => simp
theorem Agr.row {xs ys : List V} (hx : ∀ x ∈ xs, Scal x) (hy : ∀ y ∈ ys, Scal y) : Agr 2 (rkD xs) (rkD ys) (orderV xs ys) ∧ okD 2 (rkD xs) (rkD ys) = true := by
  obtain ⟨b1, b2, b3, b4⟩ := rk_all 0 xs ys hx hy
  exact ⟨⟨b2, (eqv_tup _ _).trans b4, b3⟩, b1⟩
theorem Agr.one {x y : V} (sx : Scal x) (sy : Scal y) : Agr 1 (vkD x) (vkD y) (orderV [x] [y]) ∧ okD 1 (vkD x) (vkD y) = true := by
  obtain ⟨a1, a2, a3, a4⟩ := vk_all sx sy 0
  have e : orderV [x] [y] = if firstV x y = true then -1 else if firstV y x = true then 1 else 0 := by
    unfold orderV
    rfl
  rw [e]
  refine ⟨⟨?_, ?_, ?_⟩, a1⟩
  · rw [a2]
    cases h : firstV x y with
    | true => rfl
    | false => cases h2 : firstV y x with
      | true => rfl
      | false => rfl
  · rw [a4]
    cases h : firstV x y with
    | true => rw [first_asym sx sy h]; rfl
    | false => cases h2 : firstV y x with
      | true => rfl
      | false => rfl
  · rw [a3]
    cases h : firstV x y with
    | true => rw [first_asym sx sy h]; rfl
    | false => cases h2 : firstV y x with
      | true => rfl
      | false => rfl
/-- the order of two keys, as the law reckons it -/
def keyOrd (s : Int) (n : Str) (row : List V) (s' : Int) (n' : Str) (row' : List V) : Int :=
  if (!PyData.eqv (kd2 s n) (kd2 s' n')) = true then (if ltD 1 (kd2 s n) (kd2 s' n') = true then -1 else 1) else orderV row row'
theorem Agr.key {s s' : Int} {n n' : Str} {xs ys : List V} (hx : ∀ x ∈ xs, Scal x) (hy : ∀ y ∈ ys, Scal y) :
    Agr 3 (kD s n xs) (kD s' n' ys) (keyOrd s n xs s' n' ys) ∧ okD 3 (kD s n xs) (kD s' n' ys) = true := by
  obtain ⟨⟨r1, r2, r3⟩, r4⟩ := Agr.row hx hy
  have e2 : PyData.eqv (kd2 s n) (kd2 s' n') = ((s == s') && (n == n')) := by
    unfold kd2
    rw [eqv_tup, eqv_cons, eqv_cons, eqv_nil, eqv_int, eqv_str, Bool.and_true]
  have l2 : ltD 1 (kd2 s n) (kd2 s' n') = if (s == s') = true then (if (n == n') = true then false else decide (n.cps.toList < n'.cps.toList)) else decide (s < s') := by
    simp only [kd2, ltD, ltL, eqv_int, eqv_str]
  have e3 : PyData.eqv (kD s n xs) (kD s' n' ys) = ((s == s') && ((n == n') && PyData.eqv (rkD xs) (rkD ys))) := by
    unfold kD
    rw [eqv_tup, eqv_cons, eqv_cons, eqv_cons, eqv_nil, eqv_int, eqv_str, Bool.and_true]
  have l3 : ltD 3 (kD s n xs) (kD s' n' ys) = if (s == s') = true then (if (n == n') = true then (if PyData.eqv (rkD xs) (rkD ys) = true then false else ltD 2 (rkD xs) (rkD ys)) else decide (n.cps.toList < n'.cps.toList)) else decide (s < s') := by
    simp only [kD, ltD, ltL, eqv_int, eqv_str]
  have g3 : gtD 3 (kD s n xs) (kD s' n' ys) = if (s == s') = true then (if (n == n') = true then (if PyData.eqv (rkD xs) (rkD ys) = true then false else gtD 2 (rkD xs) (rkD ys)) else decide (n'.cps.toList < n.cps.toList)) else decide (s' < s) := by
    simp only [kD, gtD, gtL, eqv_int, eqv_str]
  have o3 : okD 3 (kD s n xs) (kD s' n' ys) = if (s == s') = true then (if (n == n') = true then (if PyData.eqv (rkD xs) (rkD ys) = true then true else okD 2 (rkD xs) (rkD ys)) else true) else true := by
    simp only [kD, okD, okL, eqv_int, eqv_str]
  have it := int_tri s s'
  have st := str_tri n n'
  unfold keyOrd
  rw [e2, l2]
  refine ⟨⟨?_, ?_, ?_⟩, ?_⟩
  · rw [l3]
    cases h1 : (s == s') with
    | false => cases h : decide (s < s') <;> simp
    | true =>
      cases h2 : (n == n') with
      | false => cases h : decide (n.cps.toList < n'.cps.toList) <;> simp
      | true =>
        rw [r1, r2]
        by_cases z : orderV xs ys = 0
        · simp [z]
        · simp [z]
  · rw [e3]
    cases h1 : (s == s') with
    | false => cases h : decide (s < s') <;> simp
    | true =>
      cases h2 : (n == n') with
      | false => cases h : decide (n.cps.toList < n'.cps.toList) <;> simp
      | true => rw [r2]; simp
  · rw [g3]
    cases h1 : (s == s') with
    | false =>
      rw [h1] at it
      cases h : decide (s < s') with
      | false =>
        rw [h] at it
        simp at it
        simp [it]
      | true =>
        have z : s < s' := of_decide_eq_true h
        simp
        omega
    | true =>
      cases h2 : (n == n') with
      | false =>
        rw [h2] at st
        cases h : decide (n.cps.toList < n'.cps.toList) with
        | false =>
          rw [h] at st
          simp at st
          simp [st]
        | true =>
          have z : n.cps.toList < n'.cps.toList := of_decide_eq_true h
          have z2 := List.lt_asymm z
          simp [z2]
      | true =>
        rw [r3, r2]
        by_cases z : orderV xs ys = 0
        · simp [z]
        · simp [z]
  · rw [o3, r4]
    split
    · split
      · split <;> rfl
      · rfl
    · rfl
end K1
namespace K1
open PySem PySem.Spec PyProof.Rows L2 Ow Tlz
/-! data without lists -/
mutual
def noL : PyData → Bool
  | .list _ => false
  | .tuple xs => noLs xs
  | _ => true
def noLs : List PyData → Bool
  | [] => true
  | x :: xs => noL x && noLs xs
end
mutual
theorem Dp.tk {K : PySem.W.Frag} {H H' : Hp} (t : Tk K H H') : ∀ (d : PyData) (v : V), noL d = true → Dp K H v d → Dp K H' v d
  | .none, _, _, .non => .non
  | .bool b, _, _, .bl _ => .bl b
  | .int i, _, _, .int _ => .int i
  | .str x, _, _, .str _ => .str x
  | .list _, _, h, _ => absurd h (by rw [noL]; exact Bool.false_ne_true)
  | .tuple xs, _, h, .tup s a => .tup (t _ _ s) (DpAll.tk t xs _ (by rw [noL] at h; exact h) a)
theorem DpAll.tk {K : PySem.W.Frag} {H H' : Hp} (t : Tk K H H') : ∀ (ds : List PyData) (vs : List V), noLs ds = true → DpAll K H vs ds → DpAll K H' vs ds
  | [], _, _, .nil => .nil
  | d :: ds, _, h, .cons a b => by
    rw [noLs, Bool.and_eq_true] at h
    exact .cons (Dp.tk t d _ h.1 a) (DpAll.tk t ds _ h.2 b)
end
theorem DpAll.snoc {K : PySem.W.Frag} {H : Hp} : ∀ {vs : List V} {ds : List PyData} {v : V} {d : PyData}, DpAll K H vs ds → Dp K H v d → DpAll K H (vs ++ [v]) (ds ++ [d])
  | _, _, _, _, .nil, h => .cons h .nil
  | _, _, _, _, .cons a b, h => .cons a (DpAll.snoc b h)
theorem noL_vk (v : V) : noL (vkD v) = true := by
  cases v <;> simp [vkD, noL, noLs]
theorem noLs_vk : ∀ xs : List V, noLs (xs.map vkD) = true
  | [] => by simp [noLs]
  | x :: xs => by rw [List.map_cons, noLs, noL_vk, noLs_vk xs]; rfl
/-- strings of values can be laid -/
theorem Pr.ok {z : Str} (h : Pr z) : PyData.canLay0 (.str z) = true := by
  rw [PyData.canLay0]
  show z.cps.all (fun c => decide (c < 0x110000)) = true
  rw [Array.all_eq_true]
  intro i hi
  have := h z.cps[i] (by simp)
  exact decide_eq_true (by omega)
theorem lay_vk {v : V} (h : Scal v) : (vkD v).canLay0 = true := by
  rcases h with ⟨i, rfl, _⟩ | ⟨z, rfl, p, _⟩
  · simp [vkD, PyData.canLay0, PyData.canLayAll0]
  · have := p.ok
    simp [vkD, PyData.canLay0, PyData.canLayAll0] at this ⊢
    exact this
theorem lays_vk : ∀ {xs : List V}, (∀ x ∈ xs, Scal x) → PyData.canLayAll0 (xs.map vkD) = true
  | [], _ => by simp [PyData.canLayAll0]
  | x :: xs, h => by
    rw [List.map_cons, PyData.canLayAll0, lay_vk (h x List.mem_cons_self), lays_vk fun z m => h z (List.mem_cons_of_mem _ m)]
    rfl
theorem deep_vk (v : V) : (vkD v).depth ≤ 1 := by
  cases v <;> simp [vkD, PyData.depth, PyData.depthAll]
theorem deeps_vk : ∀ xs : List V, PyData.depthAll (xs.map vkD) ≤ 1
  | [] => by simp [PyData.depthAll]
  | x :: xs => by
    rw [List.map_cons, PyData.depthAll]
    exact Nat.max_le.mpr ⟨deep_vk x, deeps_vk xs⟩
theorem lay_rk {xs : List V} (h : ∀ x ∈ xs, Scal x) : (rkD xs).canLay0 = true := by
  unfold rkD
  rw [PyData.canLay0]
  exact lays_vk h
theorem deep_rk (xs : List V) : (rkD xs).depth ≤ 2 := by
  unfold rkD
  rw [PyData.depth]
  have := deeps_vk xs
  omega
theorem lay_k {s : Int} {n : Str} {xs : List V} (p : Pr n) (h : ∀ x ∈ xs, Scal x) : (kD s n xs).canLay0 = true := by
  have a := p.ok
  have b := lay_rk h
  unfold kD
  rw [PyData.canLay0, PyData.canLayAll0, PyData.canLayAll0, PyData.canLayAll0, PyData.canLayAll0, a, b]
  simp [PyData.canLay0]
theorem deep_k (s : Int) (n : Str) (xs : List V) : (kD s n xs).depth ≤ 3 := by
  have := deep_rk xs
  unfold kD
  rw [PyData.depth, PyData.depthAll, PyData.depthAll, PyData.depthAll, PyData.depthAll, PyData.depth, PyData.depth]
  omega
theorem noL_rk (xs : List V) : noL (rkD xs) = true := by
  unfold rkD
  rw [noL]
  exact noLs_vk xs
theorem noL_k (s : Int) (n : Str) (xs : List V) : noL (kD s n xs) = true := by
  unfold kD
  rw [noL, noLs, noLs, noLs, noLs, noL_rk]
  simp [noL]

/-- x is an item with the key s, n, row -/
def ItemAt (K : PySem.W.Frag) (H : Hp) (x : V) (s : Int) (n : Str) (row : List V) : Prop := ∃ (a : Addr) (xs : List V), x = .ref a ∧ SqT K H a xs ∧
  Pr n ∧ (∀ y ∈ row, Scal y) ∧ row.length ≤ 1000 ∧
  ((∃ rest, xs = .str "relation" :: .str n :: rest ∧ s = 0 ∧ row = []) ∨ (∃ rest, xs = .str "structure" :: .str n :: rest ∧ s = 2 ∧ row = []) ∨
   (∃ rest, xs = .str "layout" :: .str n :: rest ∧ s = 3 ∧ row = []) ∨ ∃ r : Addr, xs = [.str "fact", .str n, .ref r] ∧ s = 1 ∧ SqT K H r row)
def KeyAt (K : PySem.W.Frag) (H : Hp) (x : V) (s : Int) (n : Str) (row : List V) : Prop := ∃ a r : Addr, x = .ref a ∧
  SqT K H a [.int s, .str n, .ref r] ∧ SqT K H r row ∧ Pr n ∧ (∀ y ∈ row, Scal y) ∧ row.length ≤ 1000
theorem ItemAt.tk {K : PySem.W.Frag} {H H' : Hp} {x : V} {s : Int} {n : Str} {row : List V} (t : Tk K H H') (h : ItemAt K H x s n row) : ItemAt K H' x s n row := by
  obtain ⟨a, xs, e, h1, h2, h3, h4, h5⟩ := h
  refine ⟨a, xs, e, t _ _ h1, h2, h3, h4, ?_⟩
  rcases h5 with h | h | h | ⟨r, e1, e2, e3⟩
  · exact .inl h
  · exact .inr (.inl h)
  · exact .inr (.inr (.inl h))
  · exact .inr (.inr (.inr ⟨r, e1, e2, t _ _ e3⟩))
theorem KeyAt.tk {K : PySem.W.Frag} {H H' : Hp} {x : V} {s : Int} {n : Str} {row : List V} (t : Tk K H H') (h : KeyAt K H x s n row) : KeyAt K H' x s n row := by
  obtain ⟨a, r, e, h1, h2, h3⟩ := h
  exact ⟨a, r, e, t _ _ h1, t _ _ h2, h3⟩
def spLKey (K : PySem.W.Frag) : Sp := fun vs H Q _ => ∃ (x : V) (s : Int) (n : Str) (row : List V), vs = [x] ∧ ItemAt K H x s n row ∧
  Mak H Q fun y H' => KeyAt K H' y s n row
def spVKey (K : PySem.W.Frag) : Sp := fun vs H Q _ => ∃ x : V, vs = [x] ∧ Scal x ∧ Mak H Q fun y H' => Dp K H' y (vkD x)
def spRKey (K : PySem.W.Frag) : Sp := fun vs H Q _ => ∃ (a : Addr) (xs : List V), vs = [.ref a] ∧ SqT K H a xs ∧ (∀ x ∈ xs, Scal x) ∧ xs.length ≤ 1000 ∧
  Mak H Q fun y H' => Dp K H' y (rkD xs)
def spKOrd (K : PySem.W.Frag) : Sp := fun vs H Q _ => ∃ (x : V) (s : Int) (n : Str) (row : List V), vs = [x] ∧ KeyAt K H x s n row ∧
  Mak H Q fun y H' => Dp K H' y (kD s n row)
def spLOrd (K : PySem.W.Frag) : Sp := fun vs H Q _ => ∃ (x y : V) (s s' : Int) (n n' : Str) (row row' : List V), vs = [x, y] ∧ KeyAt K H x s n row ∧ KeyAt K H y s' n' row' ∧
  Mak H Q fun z _ => z = .int (keyOrd s n row s' n' row')
def spItem (K : PySem.W.Frag) : Sp := fun vs H Q _ => ∃ p d : Addr, vs = [.ref p] ∧ Rng d H p ∧
  Drw p d H Q fun x H' => ∃ (s : Int) (n : Str) (row : List V), ItemAt K H' x s n row
def spAgrees (K : PySem.W.Frag) : Sp := fun vs H Q _ => ∃ (x y : V) (n : Nat) (ds es : List PyData) (o : Int), vs = [x, y, .int o] ∧
  Cp K H n x y (.tuple ds) (.tuple es) ∧ Agr n (.tuple ds) (.tuple es) o ∧ Mak H Q fun z _ => z = .bl true
/-- two equal data without lists, n deep at most -/
def spSame (K : PySem.W.Frag) (n : Nat) : Sp := fun vs H Q _ => ∃ (x y : V) (d : PyData), vs = [x, y] ∧ Dp K H x d ∧ Dp K H y d ∧ d.canLay0 = true ∧ noL d = true ∧
  d.depth ≤ n ∧ n ≤ 50 ∧ Mak H Q fun z _ => z = .bl true
end K1
namespace K1
open PySem PySem.Spec PyProof.Rows L2 Ow
/-! the bytes of data -/
def numB (n : Nat) : List Int := if n ≤ 127 then [(n : Int)] else (128 + (n : Int) % 128) :: numB (n / 128)
termination_by n
decreasing_by omega
theorem numB_small {n : Nat} (h : n ≤ 127) : numB n = [(n : Int)] := by rw [numB, if_pos h]
theorem numB_big {n : Nat} (h : ¬ n ≤ 127) : numB n = (128 + (n : Int) % 128) :: numB (n / 128) := by rw [numB, if_neg h]
theorem numB_len : ∀ (k n : Nat), n < 128 ^ k → (numB n).length ≤ k + 1
  | 0, n, h => by
    rw [numB_small (by simp at h; omega)]; simp
  | k + 1, n, h => by
    by_cases e : n ≤ 127
    · rw [numB_small e]; simp
    · rw [numB_big e, List.length_cons]
      have h2 : n / 128 < 128 ^ k := by
        rw [Nat.pow_succ] at h
        exact Nat.div_lt_of_lt_mul (by rw [Nat.mul_comm]; exact h)
      have := numB_len k (n / 128) h2
      omega
theorem numB_20 {n : Nat} (h : n < 2 ^ 140) : (numB n).length ≤ 21 := numB_len 20 n (by
  have : (128 : Nat) ^ 20 = 2 ^ 140 := by decide
  omega)
def cpB (z : Str) : List Int := z.cps.toList.map fun (c : Nat) => (c : Int)
theorem cpB_len (z : Str) : (cpB z).length = z.length := by
  unfold cpB
  rw [List.length_map, Array.length_toList]
  rfl
def strB (z : Str) : List Int := numB z.length ++ cpB z
def intB (i : Int) : List Int := (if i < 0 then 1 else 0) :: numB i.natAbs
def valB : V → List Int
  | .int i => 0 :: intB i
  | .str z => 1 :: strB z
  | _ => []
def listB (xs : List (List Int)) : List Int := numB xs.length ++ xs.flatten
def rowB (xs : List V) : List Int := listB (xs.map valB)
theorem strB_len {z : Str} (h : z.length ≤ 200) : (strB z).length ≤ 221 := by
  unfold strB
  rw [List.length_append, cpB_len]
  have := numB_20 (n := z.length) (Nat.lt_of_le_of_lt h (by decide))
  omega
theorem valB_len {v : V} (h : Scal v) : (valB v).length ≤ 222 := by
  rcases h with ⟨i, rfl, h⟩ | ⟨z, rfl, _, h⟩
  · unfold valB intB
    rw [List.length_cons, List.length_cons]
    have := numB_20 h
    omega
  · unfold valB
    rw [List.length_cons]
    have := strB_len h
    omega
theorem flat_len : ∀ {xs : List (List Int)} {b : Nat}, (∀ x ∈ xs, x.length ≤ b) → xs.flatten.length ≤ xs.length * b
  | [], _, _ => by simp
  | x :: xs, b, h => by
    have h1 := h x List.mem_cons_self
    have h2 := flat_len (xs := xs) (b := b) fun y m => h y (List.mem_cons_of_mem _ m)
    rw [List.flatten_cons, List.length_append, List.length_cons, Nat.succ_mul]
    omega
theorem listB_len {xs : List (List Int)} {b : Nat} (h : ∀ x ∈ xs, x.length ≤ b) (l : xs.length ≤ 1000) : (listB xs).length ≤ 21 + xs.length * b := by
  unfold listB
  rw [List.length_append]
  have := flat_len h
  have := numB_20 (n := xs.length) (Nat.lt_of_le_of_lt l (by decide))
  omega
theorem rowB_len {xs : List V} (h : ∀ x ∈ xs, Scal x) (l : xs.length ≤ 10) : (rowB xs).length ≤ 2300 := by
  have h1 := listB_len (xs := xs.map valB) (b := 222) (fun y m => by
    obtain ⟨x, mx, rfl⟩ := List.mem_map.mp m
    exact valB_len (h x mx)) (by rw [List.length_map]; omega)
  unfold rowB
  rw [List.length_map] at h1
  omega
/-! rows in sectors -/
structure Pk where
  S : List (List Int)
  cur : List Int
  cnt : Int
def pk0 : Pk := ⟨[], [], 0⟩
def pkS (p : Pk) (c : List Int) : Pk := if p.cur.length + c.length > 63 then ⟨p.S ++ [p.cnt :: p.cur], c, 1⟩ else ⟨p.S, p.cur ++ c, p.cnt + 1⟩
def pkAll (p : Pk) : List (List Int) := if p.cnt > 0 then p.S ++ [p.cnt :: p.cur] else p.S
def padS (s : List Int) : List Int := s ++ List.replicate (64 - s.length) 0
def pkF (cs : List (List Int)) : Pk := cs.foldl pkS pk0
def packO (cs : List (List Int)) : Option (List (List Int)) :=
  if cs.all (fun c => decide (c.length ≤ 63)) = true then some ((pkAll (pkF cs)).map padS) else none
structure PkOk (n : Nat) (p : Pk) : Prop where
  z : p.cnt = 0 → p.S = [] ∧ p.cur = []
  nn : 0 ≤ p.cnt
  l : p.S.length + (if p.cnt > 0 then 1 else 0) ≤ n
  c : p.cur.length ≤ 63
  s : ∀ x ∈ p.S, x.length ≤ 64 ∧ x ≠ []
theorem pk0_ok : PkOk 0 pk0 := ⟨fun _ => ⟨rfl, rfl⟩, Int.le_refl _, by simp [pk0], by simp [pk0], fun _ h => nomatch h⟩
theorem pkS_ok {n : Nat} {p : Pk} {c : List Int} (h : PkOk n p) (hc : c.length ≤ 63) : PkOk (n + 1) (pkS p c) := by
  have h1 := h.z; have h2 := h.nn; have h3 := h.l; have h4 := h.c; have h5 := h.s
  unfold pkS
  split
  · rename_i e
    have e0 : p.cnt ≠ 0 := fun z => by
      rw [(h1 z).2] at e
      simp at e
      omega
    have e1 : p.cnt > 0 := by omega
    rw [if_pos e1] at h3
    refine ⟨fun z => ?_, ?_, ?_, hc, fun x m => ?_⟩
    · have z' : (1 : Int) = 0 := z
      omega
    · show (0 : Int) ≤ 1
      decide
    · show (p.S ++ [p.cnt :: p.cur]).length + (if (1 : Int) > 0 then 1 else 0) ≤ n + 1
      rw [List.length_append, if_pos (by decide)]
      simp
      omega
    · rcases List.mem_append.mp m with m | m
      · exact h5 x m
      · rw [List.mem_singleton.mp m, List.length_cons]
        exact ⟨by omega, by simp⟩
  · rename_i e
    refine ⟨fun z => ?_, ?_, ?_, ?_, h5⟩
    · have z' : p.cnt + 1 = 0 := z
      omega
    · show 0 ≤ p.cnt + 1
      omega
    · show p.S.length + (if p.cnt + 1 > 0 then 1 else 0) ≤ n + 1
      rw [if_pos (by omega)]
      split at h3
      · omega
      · have z : p.cnt = 0 := by omega
        rw [(h1 z).1]
        simp
    · show (p.cur ++ c).length ≤ 63
      rw [List.length_append]
      omega
theorem pkF_ok : ∀ (cs : List (List Int)) (n : Nat) (p : Pk), PkOk n p → (∀ c ∈ cs, c.length ≤ 63) → PkOk (n + cs.length) (cs.foldl pkS p)
  | [], n, p, h, _ => h
  | c :: cs, n, p, h, hc => by
    have := pkF_ok cs (n + 1) (pkS p c) (pkS_ok h (hc c List.mem_cons_self)) fun x m => hc x (List.mem_cons_of_mem _ m)
    rw [List.foldl_cons, List.length_cons, Nat.add_comm cs.length 1, ← Nat.add_assoc]
    exact this
/-! the bucket -/
def buk (bs : List Int) : Int := bs.foldl (fun h b => 31 * h + b + 1) 0
theorem buk_mod (m : Int) : ∀ (bs : List Int) (h g : Int), g = h % m → bs.foldl (fun g b => (31 * g + b + 1) % m) g = (bs.foldl (fun h b => 31 * h + b + 1) h) % m
  | [], h, g, e => e
  | b :: bs, h, g, e => by
    rw [List.foldl_cons, List.foldl_cons]
    refine buk_mod m bs _ _ ?_
    rw [e]
    have h1 : 31 * (h % m) + b + 1 = 31 * (h % m) + (b + 1) := by omega
    have h2 : 31 * h + b + 1 = 31 * h + (b + 1) := by omega
    rw [h1, h2, Int.add_emod, Int.mul_emod, Int.emod_emod_of_dvd _ (Int.dvd_refl m), ← Int.mul_emod, ← Int.add_emod]
end K1
namespace K1
open PySem PySem.Spec PyProof.Rows L2 Ow
/-! tuples whose object is known: their making, slices and methods -/
def tTupF (t : TA) : TE := fun σ H Q => t σ H fun xs H1 => xs.length ≤ sizeLine ∧ ∀ p o, H1 p = none → o.dict = none → o.cls = .type "tuple" → Q (.ref p) (upd H1 p (.frz o (.tup xs)))
theorem pe_tupF {X : Cx} {es : List Expr} {t : TA} {pos : Pos} {x1} (h : PA X es t) : PE X (.Tuple es x1 pos) (tTupF t) := by
  refine ⟨fun pins s σ H Q I hq => ?_⟩
  refine wpAny_Tuple_spliced (thn (h.run pos pins s σ H _ I hq) fun us s1 ⟨xs, H1, I1, r, z, q⟩ => ⟨by rw [← r.length]; exact z, ?_⟩)
  have hf : H1 s1.heap.objs.size = none := I1.hok.fresh (Nat.le_refl _)
  refine ⟨.ref s1.heap.objs.size, upd H1 s1.heap.objs.size (.frz { cls := .type "tuple", data := .seq us.toArray } (.tup xs)), I1.laid (t' := s1.toks) (fun b u e => Heap.get?_push_of_some _ e) (Nat.le_refl _) ?_, rfl, q _ _ hf rfl rfl⟩
  exact ⟨Heap.get?_push_size _ rfl, z, us, r, ⟨_, Heap.get?_push_size _ rfl, rfl, _, rfl⟩⟩
def rSlF : V → Option Int → Option Int → Hp → VK → Prop := fun x lo hi H Q => ∃ a xs, x = .ref a ∧ FT H a xs ∧ ∀ c H', FT H' c (cutV xs lo hi) → Same H H' → Q (.ref c) H'
theorem sl_tupF {X : Cx} : SlR X rSlF := by
  intro pins s σ H x v vl vu lo hi sl Q I rx hs pl pu h
  obtain ⟨a, xs, rfl, hx, q⟩ := h
  cases rx
  obtain ⟨its, r, ht, hz⟩ := I.tuple (hx.sq (K := X.K))
  have hlen : its.toArray.size = xs.length := by rw [List.size_toArray]; exact r.length.symm
  refine ⟨"tuple", _, PyProof.Rows.slot_tuple_getitem.lookup, ht.typeIs, ?_⟩
  by_cases hw : HT.sIx xs.length 0 lo = 0 ∧ HT.sIx xs.length xs.length hi = xs.length
  · have e : cutV xs lo hi = xs := by
      unfold cutV
      rw [hw.1, hw.2, List.drop_zero, Nat.sub_zero, List.take_length]
    exact getItem_tuple_whole ht hs pl pu (by rw [hlen]; exact hw) ⟨.ref a, H, I, rfl, q a H (by rw [e]; exact hx) (Same.refl _)⟩
  · refine HT.getItem_tuple_cut ht hs pl pu (by rw [hlen]; exact hw) ?_ (by rw [hlen]; exact hz)
    rw [hlen]
    have hf := I.hok.fresh (Nat.le_refl s.heap.objs.size)
    refine ⟨.ref s.heap.objs.size, _, I.laid (t' := s.toks) (o := .frz { cls := .type "tuple", data := .seq ((its.toArray.toList.drop (HT.sIx xs.length 0 lo)).take (HT.sIx xs.length xs.length hi - HT.sIx xs.length 0 lo)).toArray } (.tup (cutV xs lo hi))) (fun b ob q => Heap.get?_push_of_some _ q) (Nat.le_refl _) ?_, rfl, q _ _ ⟨_, upd_same, ?_, ?_⟩ (Same.new hf)⟩
    · exact ⟨Heap.get?_push_size _ rfl, Nat.le_trans (cutV_length xs lo hi) hz, _, (r.drop (HT.sIx xs.length 0 lo)).take (HT.sIx xs.length xs.length hi - HT.sIx xs.length 0 lo), IsTup.new _ _⟩
    · rfl
    · rfl
def tBMT (r : V → List V → Hp → VK → Prop) (to : TE) (t : TA) : TE := fun σ H Q => to σ H fun x H1 => (∃ p ys, x = .ref p ∧ FT H1 p ys) ∧ t σ H1 fun xs H2 => r x xs H2 Q
theorem pe_bmT {X : Cx} {o e : Expr} {es : List Expr} {to : TE} {t : TA} {name : Str} {apos cpos : Pos} {id : String} {r : V → List V → Hp → VK → Prop}
    (pa : PlainAttrs "tuple") (slot : Slot "tuple" name id) (hty : typeOf (.builtin id) = pure (.type "method_descriptor")) (hm : MtR X id r) (ho : PE X o to) (ha : PA X (e :: es) t)
    (hbase : attributeBase o name X.env (eval o X.env) = eval o X.env := by rfl)
    (hfew : ((backTo cpos (starEach (e :: es) X.env)).all (fun x => !x.1) && (backToKw cpos (keywordEach [] X.env)).all (fun x => x.1.isSome)
      && decide ((e :: es).length + ([] : List Keyword).length + (if ([] : List Keyword).isEmpty then 0 else 1) < 30)) = true := by rfl)
    (hline : (apos.endLine == cpos.line) = true := by rfl) (hs : starEach (e :: es) X.env = (false, eval e X.env) :: starEach es X.env := by rfl) (hplain : (backTo cpos (starEach es X.env)).any (·.1) = false := by rfl) :
    PE X (.Call (.Attribute o name apos) (e :: es) [] cpos) (tBMT r to t) := by
  refine ⟨fun pins s σ H Q I h => ?_⟩
  refine wpAny_Call_method_late hbase hfew hline rfl (thn (ho.run pins s σ H _ I h) fun v s1 ⟨x, H1, I1, r1, ty, q1⟩ => ?_)
  obtain ⟨p, ys, ex, ob, hp, hd, hc⟩ := ty
  subst ex
  cases r1
  have hg := (I1.hok p _ hp).1
  refine ⟨"tuple", id, pa, slot, hty, ⟨ob, hg, hc⟩, (fun a e2 => ?_), ?_⟩
  · cases e2
    exact ⟨ob, hg, hd⟩
  have hA := ha.run cpos pins s1 σ H1 _ I1 q1
  rw [hs] at hA ⊢
  refine Calls.callWith_builtin (by show (false || (backTo cpos (starEach es X.env)).any (·.1)) = false; rw [hplain] <;> rfl) (Calls.evalArgs_plain ?_)
  exact thn hA fun us s2 ⟨vs, H2, I2, r2, q2⟩ => hm pins s2 σ H2 (.ref p) vs _ us Q I2 rfl r2 q2
def rTupIx (K : PySem.W.Frag) : V → List V → Hp → VK → Prop := fun x xs H Q => ∃ p, ∃ ys : List Str, ∃ z j, x = .ref p ∧ xs = [.str z] ∧ SqT K H p (ys.map V.str) ∧ ys[j]? = some z ∧ (∀ m, m < j → ys[m]? ≠ some z) ∧ Q (.int (j : Nat)) H
theorem mt_tup_ix_K {X : Cx} {K : PySem.W.Frag} (e : X.K = K) : MtR X "tuple.index" (rTupIx K) := by
  subst e
  exact mt_tup_index
end K1
namespace K1
open PySem PySem.Spec PyProof.Rows L2 Ow
abbrev s_law_first : Stmt := topS 27
abbrev N_law_first : List Str := ["one", "other"]
theorem sc_law_first : FnScope N_law_first ["one", "other"] (defScope s_law_first) := ⟨rfl, rfl, rfl, by decide +kernel, rfl, by decide +kernel, by decide +kernel⟩
section
variable {P : Program} {w : World} {K : PySem.W.Frag} {mg : Str → Option Value} {base : Heap}
theorem ok_first {f : Addr} {fd : FuncData} (F : Fun K "_law_first" "_law_first" s_law_first f fd) (T : Bl mg) :
    FnOk P w K mg base CX0 1 f fd ["one", "other"] spFirst := by
  refine F.ok sc_law_first (fun vs H Q E h => ?_) (fun cdv A outer s H vs Q E hr h => ?_)
  · obtain ⟨a, b, rfl, _⟩ := h
    rfl
  · obtain ⟨a, b, rfl, sa, sb, q⟩ := h
    refine ⟨_, (pss_cons (ps_if (pt_cmpR op_ne (pe_callB call_isi (by rfl) T.isinstance (by decide +kernel) (pa_cons (pv 0) (pa_cons (pe_ty "int" (by rfl) T.int (by decide +kernel)) pa_nil))) (pe_callB call_isi (by rfl) T.isinstance (by decide +kernel) (pa_cons (pv 1) (pa_cons (pe_ty "int" (by rfl) T.int (by decide +kernel)) pa_nil))) (nomark _)) (pss_one (ps_ret (pe_callB call_isi (by rfl) T.isinstance (by decide +kernel) (pa_cons (pv 0) (pa_cons (pe_ty "int" (by rfl) T.int (by decide +kernel)) pa_nil))))) pss_nil)
      (pss_one (ps_ret (pe_cmpR (op_lt.or op_lt_str) (pv 0) (pv 1) (nomark _))))), ?_⟩
    rcases sa with ⟨i, rfl, _⟩ | ⟨x, rfl, _⟩
    · rcases sb with ⟨j, rfl, _⟩ | ⟨y, rfl, _⟩
      · refine ⟨_, rfl, _, _, .type "int", .type "int", true, rfl, .ty _, .base (.int i), kit_ty (by decide +kernel), ?_⟩
        refine ⟨_, rfl, _, _, .type "int", .type "int", true, rfl, .ty _, .base (.int j), kit_ty (by decide +kernel), ?_⟩
        refine ⟨rfl, _, rfl, ite2 (fun e => absurd e (by decide)) (fun _ => ?_)⟩
        exact ⟨_, rfl, _, rfl, .inl ⟨i, j, rfl, rfl, q⟩⟩
      · refine ⟨_, rfl, _, _, .type "int", .type "int", true, rfl, .ty _, .base (.int i), kit_ty (by decide +kernel), ?_⟩
        refine ⟨_, rfl, _, _, .type "str", .type "int", false, rfl, .ty _, .base (.str y), kit_ty (by decide +kernel), ?_⟩
        refine ⟨rfl, _, rfl, ite2 (fun _ => ?_) (fun e => absurd (by decide) e)⟩
        refine ⟨_, rfl, _, _, .type "int", .type "int", true, rfl, .ty _, .base (.int i), kit_ty (by decide +kernel), ?_⟩
        exact q
    · rcases sb with ⟨j, rfl, _⟩ | ⟨y, rfl, _⟩
      · refine ⟨_, rfl, _, _, .type "str", .type "int", false, rfl, .ty _, .base (.str x), kit_ty (by decide +kernel), ?_⟩
        refine ⟨_, rfl, _, _, .type "int", .type "int", true, rfl, .ty _, .base (.int j), kit_ty (by decide +kernel), ?_⟩
        refine ⟨rfl, _, rfl, ite2 (fun _ => ?_) (fun e => absurd (by decide) e)⟩
        refine ⟨_, rfl, _, _, .type "str", .type "int", false, rfl, .ty _, .base (.str x), kit_ty (by decide +kernel), ?_⟩
        exact q
      · refine ⟨_, rfl, _, _, .type "str", .type "int", false, rfl, .ty _, .base (.str x), kit_ty (by decide +kernel), ?_⟩
        refine ⟨_, rfl, _, _, .type "str", .type "int", false, rfl, .ty _, .base (.str y), kit_ty (by decide +kernel), ?_⟩
        refine ⟨rfl, _, rfl, ite2 (fun e => absurd e (by decide)) (fun _ => ?_)⟩
        exact ⟨_, rfl, _, rfl, .inr ⟨x, y, rfl, rfl, q⟩⟩
end
end K1
namespace K1
open PySem PySem.Spec PyProof.Rows L2 Ow
abbrev s_law_order : Stmt := topS 28
abbrev N_law_order : List Str := ["first", "second", "k"]
theorem sc_law_order : FnScope N_law_order ["first", "second"] (defScope s_law_order) := ⟨rfl, rfl, rfl, by decide +kernel, rfl, by decide +kernel, by decide +kernel⟩
theorem order_end : ∀ xs ys : List V, (xs = [] ∨ ys = []) →
    orderV xs ys = (if decide (ys.length < xs.length) = true then 1 else 0) - (if decide (xs.length < ys.length) = true then 1 else 0)
  | [], [], _ => rfl
  | [], y :: ys, _ => by simp [orderV]
  | x :: xs, [], _ => by simp [orderV]
  | x :: xs, y :: ys, h => by simp at h
section
variable {P : Program} {w : World} {K : PySem.W.Frag} {mg : Str → Option Value} {base : Heap}
theorem ok_order {f : Addr} {fd : FuncData} (F : Fun K "_law_order" "_law_order" s_law_order f fd) (T : Bl mg)
    (D_law_first : Kn P w K mg base 1 "_law_first" ["one", "other"] spFirst) :
    FnOk P w K mg base CX0 2 f fd ["first", "second"] (spOrder K) := by
  refine F.ok sc_law_order (fun vs H Q E h => ?_) (fun cdv A outer s H vs Q E hr h => ?_)
  · obtain ⟨a, b, xs, ys, rfl, _⟩ := h
    rfl
  · obtain ⟨a, b, xs, ys, rfl, hx, hy, bx, sx, sy, q⟩ := h
    refine ⟨_, (pss_cons (ps_for PassesOwn.never rfl (pi_range1 (by rfl) T.range (pa_cons (pe_callB (call_min2 rfl) (by rfl) T.min (by decide +kernel) (pa_cons (pe_callB call_len_seq (by rfl) T.len PySem.boot_len (pa_cons (pv 0) pa_nil)) (pa_cons (pe_callB call_len_seq (by rfl) T.len PySem.boot_len (pa_cons (pv 1) pa_nil)) pa_nil))) pa_nil)) (pg_name (i := 2) sc_law_order.nd rfl (.inl rfl)) (pss_cons (ps_if (pt_val (pe_kn D_law_first hr (pa_cons (pe_ix ix_tup (pv 0) (pv 2) (fun _ _ => rfl)) (pa_cons (pe_ix ix_tup (pv 1) (pv 2) (fun _ _ => rfl)) pa_nil)))) (pss_one (ps_ret (pe_un un_neg pe_int))) pss_nil)
      (pss_one (ps_if (pt_val (pe_kn D_law_first hr (pa_cons (pe_ix ix_tup (pv 1) (pv 2) (fun _ _ => rfl)) (pa_cons (pe_ix ix_tup (pv 0) (pv 2) (fun _ _ => rfl)) pa_nil)))) (pss_one (ps_ret pe_int)) pss_nil))))
      (pss_one (ps_ret (pe_op op_sub (pe_callTy call_int1 (by rfl) T.int (by decide +kernel) (pa_cons (pe_cmpR op_gt (pe_callB call_len_seq (by rfl) T.len PySem.boot_len (pa_cons (pv 0) pa_nil)) (pe_callB call_len_seq (by rfl) T.len PySem.boot_len (pa_cons (pv 1) pa_nil)) (nomark _)) pa_nil)) (pe_callTy call_int1 (by rfl) T.int (by decide +kernel) (pa_cons (pe_cmpR op_lt (pe_callB call_len_seq (by rfl) T.len PySem.boot_len (pa_cons (pv 0) pa_nil)) (pe_callB call_len_seq (by rfl) T.len PySem.boot_len (pa_cons (pv 1) pa_nil)) (nomark _)) pa_nil)))))), ?_⟩
    have em : (if (ys.length : Int) < (xs.length : Int) then (ys.length : Int) else (xs.length : Int)) = ((min xs.length ys.length : Nat) : Int) := by
      split <;> omega
    have hmin : min xs.length ys.length ≤ xs.length := Nat.min_le_left _ _
    refine ⟨_, rfl, a, xs, rfl, .inr hx, _, rfl, b, ys, rfl, .inr hy, (xs.length : Int), (ys.length : Int), rfl, ((min xs.length ys.length : Nat) : Int), by rw [em], by omega, by omega,
      for_range (lo := 0) (n := ((min xs.length ys.length : Nat) : Int).toNat) (fun i σ H3 => ∃ y2 : Option V, σ = [some (.ref a), some (.ref b), y2] ∧ H3 = H ∧
        orderV xs ys = orderV (xs.drop i) (ys.drop i)) ⟨none, rfl, rfl, rfl⟩ (fun i σ H3 hi hP => ?_) (fun σ H3 hP => ?_)⟩
    · obtain ⟨y2, rfl, rfl, eo⟩ := hP
      have h1 : i < xs.length := by omega
      have h2 : i < ys.length := by omega
      rw [List.drop_eq_getElem_cons h1, List.drop_eq_getElem_cons h2] at eo
      have ex := at_of (xs := xs) (z := 0 + (i : Int)) (j := i) (by omega) (List.getElem?_eq_getElem h1)
      have ey := at_of (xs := ys) (z := 0 + (i : Int)) (j := i) (by omega) (List.getElem?_eq_getElem h2)
      have s1 := sx _ (List.getElem_mem h1)
      have s2 := sy _ (List.getElem_mem h2)
      refine ⟨_, rfl, _, rfl, a, xs, _, xs[i], rfl, rfl, hx, ex, _, rfl, _, rfl, b, ys, _, ys[i], rfl, rfl, hy, ey, xs[i], ys[i], rfl, s1, s2, _, rfl, ite2 (fun e => ?_) (fun e => ?_)⟩
      · refine ⟨1, rfl, ?_⟩
        have z : orderV xs ys = -1 := by
          rw [eo]
          unfold orderV
          rw [if_pos e]
        rw [z] at q
        exact q
      · refine ⟨_, rfl, _, rfl, b, ys, _, ys[i], rfl, rfl, hy, ey, _, rfl, _, rfl, a, xs, _, xs[i], rfl, rfl, hx, ex, ys[i], xs[i], rfl, s2, s1, _, rfl, ite2 (fun e2 => ?_) (fun e2 => ?_)⟩
        · have z : orderV xs ys = 1 := by
            rw [eo]
            unfold orderV
            rw [if_neg e, if_pos e2]
          rw [z] at q
          exact q
        · refine ⟨_, rfl, rfl, ?_⟩
          rw [eo]
          conv => lhs; unfold orderV
          rw [if_neg e, if_neg e2]
    · obtain ⟨y2, rfl, rfl, eo⟩ := hP
      have eo' : orderV xs ys = orderV (xs.drop (min xs.length ys.length)) (ys.drop (min xs.length ys.length)) := eo
      refine ⟨_, rfl, a, xs, rfl, .inr hx, _, rfl, b, ys, rfl, .inr hy, _, _, rfl, rfl, .inr ⟨_, rfl, _, rfl, a, xs, rfl, .inr hx, _, rfl, b, ys, rfl, .inr hy, _, _, rfl, rfl, .inr ⟨_, rfl, _, _, rfl, rfl, ?_⟩⟩⟩
      have eE := order_end (xs.drop (min xs.length ys.length)) (ys.drop (min xs.length ys.length)) (by
        by_cases h : xs.length ≤ ys.length
        · left; exact List.drop_of_length_le (by omega)
        · right; exact List.drop_of_length_le (by omega))
      have e1 : decide ((ys.drop (min xs.length ys.length)).length < (xs.drop (min xs.length ys.length)).length) = decide ((ys.length : Int) < (xs.length : Int)) := by
        rw [List.length_drop, List.length_drop]
        apply decide_eq_decide.mpr
        omega
      have e2 : decide ((xs.drop (min xs.length ys.length)).length < (ys.drop (min xs.length ys.length)).length) = decide ((xs.length : Int) < (ys.length : Int)) := by
        rw [List.length_drop, List.length_drop]
        apply decide_eq_decide.mpr
        omega
      rw [e1, e2] at eE
      rw [eo'.trans eE] at q
      exact q
end
end K1
namespace K1
open PySem PySem.Spec PyProof.Rows L2 Ow Tlz
abbrev svalue_key : Stmt := topS 2
abbrev Nvalue_key : List Str := ["value"]
theorem scvalue_key : FnScope Nvalue_key ["value"] (defScope svalue_key) := ⟨rfl, rfl, rfl, by decide +kernel, rfl, by decide +kernel, by decide +kernel⟩
abbrev srow_key : Stmt := topS 3
abbrev Nrow_key : List Str := ["row", "value"]
theorem scrow_key : FnScope Nrow_key ["row"] (defScope srow_key) := ⟨rfl, rfl, rfl, by decide +kernel, rfl, by decide +kernel, by decide +kernel⟩
section
variable {P : Program} {w : World} {K : PySem.W.Frag} {mg : Str → Option Value} {base : Heap}
theorem ok_vkey {f : Addr} {fd : FuncData} (F : Fun K "value_key" "value_key" svalue_key f fd) (T : Bl mg) :
    FnOk P w K mg base CX0 1 f fd ["value"] (spVKey K) := by
  refine F.ok scvalue_key (fun vs H Q E h => ?_) (fun cdv A outer s H vs Q E hr h => ?_)
  · obtain ⟨x, rfl, _⟩ := h
    rfl
  · obtain ⟨x, rfl, sx, q⟩ := h
    refine ⟨_, (pss_cons (ps_if (pt_val (pe_callB call_isi (by rfl) T.isinstance (by decide +kernel) (pa_cons (pv 0) (pa_cons (pe_ty "str" (by rfl) T.str (by decide +kernel)) pa_nil)))) (pss_one (ps_ret (pe_tup (pa_cons pe_int (pa_cons (pv 0) pa_nil))))) pss_nil)
      (pss_one (ps_ret (pe_tup (pa_cons pe_int (pa_cons (pv 0) pa_nil)))))), ?_⟩
    rcases sx with ⟨i, rfl, _⟩ | ⟨z, rfl, _⟩
    · refine ⟨_, rfl, _, _, .type "int", .type "str", false, rfl, .ty _, .base (.int i), kit_ty (by decide +kernel), ?_⟩
      refine ⟨_, rfl, iteF ?_⟩
      refine ⟨_, rfl, sz 2, fun t nt => q _ _ ?_ (Same.new nt)⟩
      exact .tup (SqT.of upd_same) (.cons (.int 0) (.cons (.int i) .nil))
    · refine ⟨_, rfl, _, _, .type "str", .type "str", true, rfl, .ty _, .base (.str z), kit_ty (by decide +kernel), ?_⟩
      refine ⟨_, rfl, iteT ?_⟩
      refine ⟨_, rfl, sz 2, fun t nt => q _ _ ?_ (Same.new nt)⟩
      exact .tup (SqT.of upd_same) (.cons (.int 1) (.cons (.str z) .nil))
theorem ok_rkey {f : Addr} {fd : FuncData} (F : Fun K "row_key" "row_key" srow_key f fd) (T : Bl mg)
    (Dvalue_key : Kn P w K mg base 1 "value_key" ["value"] (spVKey K)) :
    FnOk P w K mg base CX0 2 f fd ["row"] (spRKey K) := by
  refine F.ok scrow_key (fun vs H Q E h => ?_) (fun cdv A outer s H vs Q E hr h => ?_)
  · obtain ⟨a, xs, rfl, _⟩ := h
    rfl
  · obtain ⟨a, xs, rfl, hx, sx, lx, q⟩ := h
    refine ⟨_, (pss_one (ps_ret (pe_callTy call_tuple_of (by rfl) T.tuple (by decide +kernel) (pa_cons (pe_lc (own := [("value", 1)]) (g := gName 1) rfl scrow_key.nd (pi_tup (pv 0)) (blkOk_by (own := [("value", 1)]) (N := Nrow_key) (sc := defScope srow_key) (by decide +kernel)) (fun _ _ _ _ _ => pg_name (i := 1) scrow_key.nd rfl (Or.inl rfl)) (fun _ _ _ _ _ => pts_nil) (fun _ _ _ _ _ => (pe_kn Dvalue_key hr (pa_cons (pv 1) pa_nil)))) pa_nil)))), ?_⟩
    refine ⟨_, rfl, a, rfl, ⟨_, hx⟩, fun D nD => lc_tup (K := K) (a := a) (xs := xs) (fun i H4 => ∃ ks : List V, H4 D = some (.lst ks) ∧ ks.length = i ∧ Same H H4 ∧
      DpAll K H4 ks ((xs.take i).map vkD)) ⟨[], upd_same, rfl, Same.new nD, .nil⟩ (fun i H4 hi hP => ?_) (fun i x H4 hi hP => ?_) (fun H4 hP => ?_)⟩
    · obtain ⟨ks, _, _, sm, _⟩ := hP
      exact Tk.same sm _ _ hx
    · obtain ⟨ks, eD, lk, sm, da⟩ := hP
      refine ⟨rfl, ?_⟩
      refine ⟨_, rfl, x, rfl, sx x (List.mem_of_getElem? hi), ?_⟩
      intro y H5 dy s5
      have hl : i < xs.length := (List.getElem?_eq_some_iff.mp hi).1
      have t5 : Tk K H4 H5 := Tk.same s5
      have eD5 := s5 _ _ eD
      refine ⟨ks, eD5, small (m := 1000) (by omega) (by decide), ks ++ [y], upd_same, by rw [List.length_append, lk]; rfl, Same.over (sm.trans s5) nD, ?_⟩
      have t6 : Tk K H5 (upd H5 D (.lst (ks ++ [y]))) := Tk.put eD5
      rw [List.take_add_one, hi]
      rw [List.map_append]
      exact DpAll.snoc (DpAll.tk (t5.trans t6) _ _ (noLs_vk _) da) (Dp.tk t6 _ _ (noL_vk x) dy)
    · obtain ⟨ks, eD, lk, sm, da⟩ := hP
      rw [List.take_length] at da
      refine ⟨D, ks, rfl, .inl ⟨SqL.of eD, fun l nl => q _ _ ?_ (sm.trans (Same.new nl))⟩⟩
      exact .tup (SqT.of upd_same) (DpAll.tk (Tk.same (Same.new nl)) _ _ (noLs_vk _) da)
end
end K1
namespace K1
open PySem PySem.Spec PyProof.Rows L2 Ow
abbrev s_law_mix : Stmt := topS 16
abbrev N_law_mix : List Str := ["cell", "k", "value"]
theorem sc_law_mix : FnScope N_law_mix ["cell", "k"] (defScope s_law_mix) := ⟨rfl, rfl, rfl, by decide +kernel, rfl, by decide +kernel, by decide +kernel⟩
section
variable {P : Program} {w : World} {K : PySem.W.Frag} {mg : Str → Option Value} {base : Heap}
theorem ok_mix {f : Addr} {fd : FuncData} (F : Fun K "_law_mix" "_law_mix" s_law_mix f fd) (T : Bl mg) :
    FnOk P w K mg base CX0 1 f fd ["cell", "k"] spMix := by
  refine F.ok sc_law_mix (fun vs H Q E h => ?_) (fun cdv A outer s H vs Q E hr h => ?_)
  · obtain ⟨c, k, rfl, _⟩ := h
    rfl
  · obtain ⟨c, k, rfl, q⟩ := h
    refine ⟨_, (pss_cons (ps_set (i := 2) sc_law_mix.nd rfl (.inl rfl) (pe_op op_mod (pe_callTy call_int1 (by rfl) T.int (by decide +kernel) (pa_cons (pe_op op_add (pe_op op_add (pe_op op_mul (pe_callTy call_int1 (by rfl) T.int (by decide +kernel) (pa_cons (pv 0) pa_nil)) pe_int) (pe_op op_mul (pv 1) pe_int)) pe_int) pa_nil)) pe_int))
      (pss_cons (ps_set (i := 2) sc_law_mix.nd rfl (.inl rfl) (pe_op op_mod (pe_callTy call_int1 (by rfl) T.int (by decide +kernel) (pa_cons (pe_op op_add (pe_op op_add (pe_op op_mul (pv 2) (pv 2)) (pe_op op_mul (pv 1) pe_int)) pe_int) pa_nil)) pe_int))
      (pss_one (ps_ret (pe_op op_mod (pe_op op_fdiv (pv 2) pe_int) pe_int))))), ?_⟩
    refine ⟨_, rfl, .inl ⟨c, rfl, c, 48271, rfl, rfl, .inr ⟨by decide, by decide⟩, _, rfl, k, 69621, rfl, rfl,
      .inr ⟨by decide, by decide⟩, _, _, rfl, rfl, _, _, rfl, rfl, .inl ⟨_, rfl, _, 2147483647, rfl, rfl, (by show (0 : Int) < 2147483647; decide), ?_⟩⟩⟩
    refine ⟨_, rfl, _, rfl, _, _, rfl, rfl, .inl ⟨by omega, by omega⟩, _, rfl, k, 40692, rfl, rfl,
      .inr ⟨by decide, by decide⟩, _, _, rfl, rfl, _, _, rfl, rfl, .inl ⟨_, rfl, _, 2147483399, rfl, rfl, (by show (0 : Int) < 2147483399; decide), ?_⟩⟩
    refine ⟨_, rfl, _, 5, rfl, rfl, ⟨by decide, by decide⟩, _, 9973, rfl, rfl, (by show (0 : Int) < 9973; decide), ?_⟩
    exact q _ (Int.emod_nonneg _ (by decide)) (Int.emod_lt_of_pos _ (by decide))
end
end K1
namespace K1
open PySem PySem.Spec PyProof.Rows L2 Ow
abbrev s_law_at : Stmt := topS 18
abbrev N_law_at : List Str := ["draws", "index"]
theorem sc_law_at : FnScope N_law_at ["draws", "index"] (defScope s_law_at) := ⟨rfl, rfl, rfl, by decide +kernel, rfl, by decide +kernel, by decide +kernel⟩
section
variable {P : Program} {w : World} {K : PySem.W.Frag} {mg : Str → Option Value} {base : Heap}
theorem ok_at {f : Addr} {fd : FuncData} (F : Fun K "_law_at" "_law_at" s_law_at f fd) (T : Bl mg)
    (D_law_mix : Kn P w K mg base 1 "_law_mix" ["cell", "k"] spMix) :
    FnOk P w K mg base CX0 2 f fd ["draws", "index"] (spAt K) := by
  refine F.ok sc_law_at (fun vs H Q E h => ?_) (fun cdv A outer s H vs Q E hr h => ?_)
  · obtain ⟨d, ds, i, rfl, _⟩ := h
    rfl
  · obtain ⟨d, ds, i, rfl, hd, hi, q⟩ := h
    refine ⟨_, (pss_cons (ps_if (pt_cmpR op_lt (pv 1) (pe_callB call_len_seq (by rfl) T.len PySem.boot_len (pa_cons (pv 0) pa_nil)) (nomark _)) (pss_one (ps_ret (pe_ix ix_list (pv 0) (pv 1) (fun _ _ => rfl)))) pss_nil)
      (pss_cons (ps_if (pt_cmpR op_eq (pe_callB call_len_seq (by rfl) T.len PySem.boot_len (pa_cons (pv 0) pa_nil)) pe_int (nomark _)) (pss_one (ps_ret (pe_kn D_law_mix hr (pa_cons (pv 1) (pa_cons pe_int pa_nil))))) pss_nil)
      (pss_one (ps_ret (pe_kn D_law_mix hr (pa_cons (pe_op op_add (pe_ix ix_list (pv 0) (pe_op op_mod (pe_callTy call_int1 (by rfl) T.int (by decide +kernel) (pa_cons (pv 1) pa_nil)) (pe_callB call_len_seq (by rfl) T.len PySem.boot_len (pa_cons (pv 0) pa_nil))) (fun _ _ => rfl)) (pe_op op_mul (pv 1) pe_int)) (pa_cons (pv 1) pa_nil))))))), ?_⟩
    refine ⟨_, rfl, _, rfl, d, ds.map V.int, rfl, .inl hd, _, _, rfl, rfl, _, rfl, ite2 (fun e => ?_) (fun e => ?_)⟩
    · have e1 : i < ((ds.map V.int).length : Int) := of_decide_eq_true e
      rw [List.length_map] at e1
      have e2 : i.toNat < ds.length := by omega
      refine ⟨_, rfl, _, rfl, d, ds.map V.int, i, .int ds[i.toNat], rfl, rfl, hd, ?_, q _⟩
      exact at_of (j := i.toNat) (by omega) (by rw [List.getElem?_map, List.getElem?_eq_getElem e2]; rfl)
    · refine ⟨_, rfl, d, ds.map V.int, rfl, .inl hd, rfl, _, rfl, ite2 (fun e2 => ?_) (fun e2 => ?_)⟩
      · exact ⟨_, rfl, i, 77, rfl, fun v _ _ => q v⟩
      · have n0 : 0 < ds.length := by
          apply Nat.pos_of_ne_zero
          intro z
          apply e2
          apply decide_eq_true
          rw [List.length_map, z]
          rfl
        have m0 : 0 ≤ i % (ds.length : Int) := Int.emod_nonneg _ (by omega)
        have m1 : i % (ds.length : Int) < ds.length := Int.emod_lt_of_pos _ (by omega)
        have m2 : (i % (ds.length : Int)).toNat < ds.length := by omega
        refine ⟨_, rfl, _, rfl, .inl ⟨_, rfl, _, rfl, d, ds.map V.int, rfl, .inl hd, _, _, rfl, rfl, ?_, d, ds.map V.int, _,
          .int ds[(i % (ds.length : Int)).toNat], rfl, rfl, hd, ?_, _, rfl, i, 131, rfl, rfl, .inr ⟨by decide, by decide⟩, _, _, rfl, rfl, _, rfl, _, _, rfl, fun v _ _ => q v⟩⟩
        · show (0 : Int) < ((ds.map V.int).length : Int)
          rw [List.length_map]
          omega
        · rw [List.length_map]
          exact at_of (j := (i % (ds.length : Int)).toNat) (by omega) (by rw [List.getElem?_map, List.getElem?_eq_getElem m2]; rfl)
end
end K1
namespace K1
open PySem PySem.Spec PyProof.Rows L2 Ow
abbrev s_law_draws : Stmt := topS 17
abbrev N_law_draws : List Str := ["script", "draws", "k", "cell", "place"]
theorem sc_law_draws : FnScope N_law_draws ["script"] (defScope s_law_draws) := ⟨rfl, rfl, rfl, by decide +kernel, rfl, by decide +kernel, by decide +kernel⟩
section
variable {P : Program} {w : World} {K : PySem.W.Frag} {mg : Str → Option Value} {base : Heap}
theorem ok_draws {f : Addr} {fd : FuncData} (F : Fun K "_law_draws" "_law_draws" s_law_draws f fd) (T : Bl mg)
    (D_law_mix : Kn P w K mg base 1 "_law_mix" ["cell", "k"] spMix) :
    FnOk P w K mg base CX0 2 f fd ["script"] (spDraws K) := by
  refine F.ok sc_law_draws (fun vs H Q E h => ?_) (fun cdv A outer s H vs Q E hr h => ?_)
  · obtain ⟨a, ns, rfl, _⟩ := h
    rfl
  · obtain ⟨a, ns, rfl, hS, hlen, q⟩ := h
    refine ⟨_, (pss_cons (ps_set (i := 1) sc_law_draws.nd rfl (.inl rfl) (pe_lst pa_nil))
      (pss_cons (ps_for PassesOwn.never rfl (pi_range1 (by rfl) T.range (pa_cons (pe_callB (call_min2 rfl) (by rfl) T.min (by decide +kernel) (pa_cons pe_int (pa_cons (pe_callB call_len_seq (by rfl) T.len PySem.boot_len (pa_cons (pv 0) pa_nil)) pa_nil))) pa_nil)) (pg_name (i := 2) sc_law_draws.nd rfl (.inl rfl)) (pss_cons (ps_set (i := 3) sc_law_draws.nd rfl (.inl rfl) (pe_callTy call_int1 (by rfl) T.int (by decide +kernel) (pa_cons (pe_ix ix_list (pv 0) (pv 2) (fun _ _ => rfl)) pa_nil)))
      (pss_one (ps_if (pt_cmpR op_lt (pv 3) (pe_op op_pow pe_int pe_int) (nomark _)) (pss_one (ps_expr (pe_bm PySem.F.plainAttrs_list PySem.F.slot_list_append PySem.F.type_list_append mt_append (pv 1) (pa_cons (pe_kn D_law_mix hr (pa_cons (pv 3) (pa_cons (pv 2) pa_nil))) pa_nil)))) (pss_one (ps_for PassesOwn.never rfl (pi_range1 (by rfl) T.range (pa_cons pe_int pa_nil)) (pg_name (i := 4) sc_law_draws.nd rfl (.inl rfl)) (pss_one (ps_if (pt_cmpR op_gt (pv 3) pe_int (nomark _)) (pss_cons (ps_expr (pe_bm PySem.F.plainAttrs_list PySem.F.slot_list_append PySem.F.type_list_append mt_append (pv 1) (pa_cons (pe_op op_mod (pe_callTy call_int1 (by rfl) T.int (by decide +kernel) (pa_cons (pv 3) pa_nil)) pe_int) pa_nil)))
      (pss_one (ps_set (i := 3) sc_law_draws.nd rfl (.inl rfl) (pe_op op_fdiv (pv 3) pe_int)))) pss_nil))))))))
      (pss_one (ps_ret (pv 1))))), ?_⟩
    refine ⟨Nat.zero_le _, fun o no => ?_⟩
    have s1 : Same H (upd H o (.lst [])) := Same.new no
    have en : (if ((ns.map V.int).length : Int) < 63 then ((ns.map V.int).length : Int) else 63) = (ns.length : Int) := by
      rw [List.length_map]
      split <;> omega
    refine ⟨_, rfl, a, ns.map V.int, rfl, .inl (s1.seq hS), 63, ((ns.map V.int).length : Int), rfl, (ns.length : Int), by rw [en], by omega, by omega,
      for_range (lo := 0) (n := (ns.length : Int).toNat) (fun i σ H3 => ∃ (y2 y3 y4 : Option V) (ds : List Int), σ = [some (.ref a), some (.ref o), y2, y3, y4] ∧
        Same H H3 ∧ H3 o = some (.lst (ds.map V.int)) ∧ ds.length ≤ 60 * i) ⟨none, none, none, [], rfl, s1, upd_same, Nat.zero_le _⟩ (fun i σ H3 hi hP => ?_) (fun σ H3 hP => ?_)⟩
    · obtain ⟨y2, y3, y4, ds, rfl, sm, eo, hl⟩ := hP
      have hi' : i < ns.length := by omega
      have g : (ns.map V.int)[i]? = some (.int ns[i]) := by
        rw [List.getElem?_map, List.getElem?_eq_getElem hi']
        rfl
      refine ⟨_, rfl, _, rfl, a, ns.map V.int, _, .int ns[i], rfl, rfl, sm.seq hS, at_of (j := i) (by omega) g, .inl ⟨_, rfl, ?_⟩⟩
      refine ⟨_, rfl, 10, 18, rfl, rfl, ⟨by decide, by decide, by decide⟩, _, _, rfl, rfl, _, rfl, ite2 (fun e => ?_) (fun e => ?_)⟩
      · refine ⟨_, rfl, .inl ⟨rfl, _, .inl (.inl eo)⟩, _, rfl, _, rfl, _, _, rfl, fun v v0 v1 => ⟨o, ds.map V.int, .int v, rfl, rfl, eo, ?_, ?_⟩⟩
        · rw [List.length_map]
          exact small hl (by omega)
        · exact ⟨_, _, _, ds ++ [v], rfl, Same.over sm no, by rw [upd_same, List.map_append]; rfl, by rw [List.length_append]; show ds.length + 1 ≤ _; omega⟩
      · refine ⟨60, rfl, by decide, by decide, for_range (lo := 0) (n := (60 : Int).toNat) (fun j σ H4 => ∃ (c : Int) (y5 : Option V) (es : List Int), σ = [some (.ref a), some (.ref o), some (.int (0 + (i : Int))), some (.int c), y5] ∧
          Same H H4 ∧ H4 o = some (.lst (es.map V.int)) ∧ es.length ≤ 60 * i + j) ⟨ns[i], y4, ds, rfl, sm, eo, hl⟩ (fun j σ H4 hj hP => ?_) (fun σ H4 hP => ?_)⟩
        · obtain ⟨c, y5, es, rfl, sm4, eo4, hl4⟩ := hP
          have hj' : j < 60 := hj
          refine ⟨_, rfl, _, _, rfl, rfl, _, rfl, ite2 (fun e2 => ?_) (fun e2 => ?_)⟩
          · refine ⟨_, rfl, .inl ⟨rfl, _, .inl (.inl eo4)⟩, _, rfl, .inl ⟨c, rfl, c, 9973, rfl, rfl, (by show (0 : Int) < 9973; decide), o, es.map V.int, _, rfl, rfl, eo4, ?_, ?_⟩⟩
            · rw [List.length_map]
              exact small hl4 (by omega)
            · refine ⟨_, rfl, c, 9973, rfl, rfl, ⟨by decide, by decide⟩, ?_⟩
              exact ⟨c / 9973, _, es ++ [c % 9973], rfl, Same.over sm4 no, by rw [upd_same, List.map_append]; rfl, by rw [List.length_append]; show es.length + 1 ≤ _; omega⟩
          · exact ⟨c, _, es, rfl, sm4, eo4, by omega⟩
        · obtain ⟨c, y5, es, rfl, sm4, eo4, hl4⟩ := hP
          have hl5 : es.length ≤ 60 * i + 60 := hl4
          exact ⟨_, _, _, es, rfl, sm4, eo4, by omega⟩
    · obtain ⟨y2, y3, y4, ds, rfl, sm, eo, hl⟩ := hP
      exact ⟨_, rfl, q H3 o ds sm no eo⟩
end
end K1
namespace K1
open PySem PySem.Spec PyProof.Rows L2 Ow
abbrev s_law_next : Stmt := topS 22
abbrev N_law_next : List Str := ["state", "limit"]
theorem sc_law_next : FnScope N_law_next ["state", "limit"] (defScope s_law_next) := ⟨rfl, rfl, rfl, by decide +kernel, rfl, by decide +kernel, by decide +kernel⟩
section
variable {P : Program} {w : World} {K : PySem.W.Frag} {mg : Str → Option Value} {base : Heap}
theorem ok_next {f : Addr} {fd : FuncData} (F : Fun K "_law_next" "_law_next" s_law_next f fd) (T : Bl mg)
    (D_law_at : Kn P w K mg base 2 "_law_at" ["draws", "index"] (spAt K)) :
    FnOk P w K mg base CX0 3 f fd ["state", "limit"] spNext := by
  refine F.ok sc_law_next (fun vs H Q E h => ?_) (fun cdv A outer s H vs Q E hr h => ?_)
  · obtain ⟨p, d, l, rfl, _⟩ := h
    rfl
  · obtain ⟨p, d, l, rfl, hl, ⟨ds, k, hp, hk, hd⟩, q⟩ := h
    have nd := Rng.ne hp hd
    refine ⟨_, (pss_cons (ps_augS (pv 0) pe_int pget_list pe_int ip_add set_list)
      (pss_one (ps_ret (pe_op op_mod (pe_kn D_law_at hr (pa_cons (pe_ix ix_list (pv 0) pe_int (fun _ _ => rfl)) (pa_cons (pe_ix ix_list (pv 0) pe_int (fun _ _ => rfl)) pa_nil))) (pv 1))))), ?_⟩
    refine ⟨_, rfl, p, [.ref d, .int k], 1, .int k, rfl, rfl, SqL.of hp, rfl, k, 1, rfl, rfl, p, [.ref d, .int k], 1, 1, rfl, rfl, hp, rfl, ?_⟩
    have e1 : (upd H p (.lst [.ref d, .int (k + 1)])) d = some (.lst (ds.map V.int)) := by
      rw [upd_ne nd]
      exact hd
    refine ⟨_, rfl, p, [.ref d, .int (k + 1)], 0, .ref d, rfl, rfl, SqL.of upd_same, rfl, _, rfl, p, [.ref d, .int (k + 1)], 1, .int (k + 1), rfl, rfl, SqL.of upd_same, rfl,
      d, ds, k + 1, rfl, SqL.of e1, by omega, fun v => ⟨_, rfl, v, l, rfl, rfl, hl, ?_⟩⟩
    exact q _ _ ⟨_, rfl, Int.emod_nonneg _ (by omega), Int.emod_lt_of_pos _ hl⟩ Gw.put ⟨ds, k + 1, upd_same, by omega, e1⟩
end
end K1
namespace K1
open PySem PySem.Spec PyProof.Rows L2 Ow
abbrev s_law_text : Stmt := topS 23
abbrev N_law_text : List Str := ["state", "most", "chars", "start", "step", "k"]
theorem sc_law_text : FnScope N_law_text ["state", "most"] (defScope s_law_text) := ⟨rfl, rfl, rfl, by decide +kernel, rfl, by decide +kernel, by decide +kernel⟩
theorem join_len : ∀ (ys : List Str) (n : Nat), (∀ y ∈ ys, y.length ≤ 1) → ys.length ≤ n → (ys.map (·.length)).sum ≤ n
  | [], _, _, _ => Nat.zero_le _
  | y :: r, 0, _, h => by simp at h
  | y :: r, n + 1, h, hl => by
    have ih := join_len r n (fun z hz => h z (List.mem_cons_of_mem _ hz)) (by simpa using hl)
    have h1 := h y List.mem_cons_self
    rw [List.map_cons, List.sum_cons]
    omega
section
variable {P : Program} {w : World} {K : PySem.W.Frag} {mg : Str → Option Value} {base : Heap}
theorem ok_text {f : Addr} {fd : FuncData} (F : Fun K "_law_text" "_law_text" s_law_text f fd) (T : Bl mg)
    (D_law_next : Kn P w K mg base 3 "_law_next" ["state", "limit"] spNext) :
    FnOk P w K mg base CX0 4 f fd ["state", "most"] spText := by
  refine F.ok sc_law_text (fun vs H Q E h => ?_) (fun cdv A outer s H vs Q E hr h => ?_)
  · obtain ⟨p, d, m, rfl, _⟩ := h
    rfl
  · obtain ⟨p, d, m, rfl, hm, rg, q⟩ := h
    refine ⟨_, (pss_cons (ps_set (i := 2) sc_law_text.nd rfl (.inr rfl) pe_str)
      (pss_cons (ps_set (i := 3) sc_law_text.nd rfl (.inr rfl) (pe_kn D_law_next hr (pa_cons (pv 0) (pa_cons pe_int pa_nil))))
      (pss_cons (ps_set (i := 4) sc_law_text.nd rfl (.inr rfl) (pe_kn D_law_next hr (pa_cons (pv 0) (pa_cons pe_int pa_nil))))
      (pss_one (ps_ret (pe_join pe_str (pe_lc (own := [("k", 5)]) (g := gName 5) rfl sc_law_text.nd (pi_range1 (by rfl) T.range (pa_cons (pe_kn D_law_next hr (pa_cons (pv 0) (pa_cons (pe_op op_add (pv 1) pe_int) pa_nil))) pa_nil)) (blkOk_by (own := [("k", 5)]) (N := N_law_text) (sc := defScope s_law_text) (by decide +kernel)) (fun _ _ _ _ _ => pg_name (i := 5) sc_law_text.nd rfl (Or.inl rfl)) (fun _ _ _ _ _ => pts_nil) (fun _ _ _ _ _ => (pe_ix ix_str (pv 2) (pe_op op_mod (pe_op op_add (pv 3) (pe_op op_mul (pv 4) (pv 5))) pe_int) (fun _ _ => rfl)))))))))), ?_⟩
    refine ⟨_, rfl, p, d, 94, rfl, by decide, rg, ?_⟩
    rintro x1 H1 ⟨b, rfl, b0, b1⟩ gw1 rg1
    refine ⟨_, rfl, p, d, 94, rfl, by decide, rg1, ?_⟩
    rintro x2 H2 ⟨c, rfl, c0, c1⟩ gw2 rg2
    refine ⟨⟨_, rfl⟩, _, rfl, _, rfl, (m : Int), 1, rfl, rfl, p, d, (m : Int) + 1, rfl, by omega, rg2, ?_⟩
    rintro x3 H3 ⟨n, rfl, n0, n1⟩ gw3 rg3
    have gw : Gw p H H3 := (gw1.trans gw2).trans gw3
    refine ⟨n, rfl, by omega, by omega, fun D nD => lc_range (lo := 0) (n := n.toNat) (fun i H4 => ∃ ys : List Str, H4 D = some (.lst (ys.map V.str)) ∧
      ys.length = i ∧ (∀ y ∈ ys, y.length ≤ 1 ∧ Pr y) ∧ Gw p H H4 ∧ Rng d H4 p) ⟨[], upd_same, rfl, fun _ z => (nomatch z), Gw.over gw (gw.free nD (rg3.free nD).1), rg3.same (Same.new nD)⟩ (fun i H4 hi hP => ?_) (fun H4 hP => ?_)⟩
    · obtain ⟨ys, eD, ly, l1, gw4, rg4⟩ := hP
      refine ⟨rfl, ?_⟩
      refine ⟨_, rfl, _, rfl, _, rfl, _, rfl, c, _, rfl, rfl, .inl ⟨by omega, by omega⟩, _, _, rfl, rfl, _, 94, rfl, rfl, (by show (0 : Int) < 94; decide), ?_⟩
      obtain ⟨ch, hch, mch⟩ := at_in (xs := (PySem.Str.ofString " !\"#$&'()*+,-./0123456789:;<=>?@ABCDEFGHIJKLMNOPQRSTUVWXYZ[\\]^_`abcdefghijklmnopqrstuvwxyz{|}~").cps.toList)
        (v := (b + c * (0 + (i : Int))) % 94) (Int.emod_nonneg _ (by decide)) (by
          rw [show (PySem.Str.ofString " !\"#$&'()*+,-./0123456789:;<=>?@ABCDEFGHIJKLMNOPQRSTUVWXYZ[\\]^_`abcdefghijklmnopqrstuvwxyz{|}~").cps.toList.length = 94 by decide +kernel]
          exact Int.emod_lt_of_pos _ (by decide))
      refine ⟨_, _, ch, rfl, rfl, by decide +kernel, hch, ys.map V.str, eD, ?_, ?_⟩
      · rw [List.length_map]
        exact small (m := 1000) (by omega) (by decide)
      · refine ⟨ys ++ [⟨#[ch]⟩], by rw [upd_same, List.map_append]; rfl, by rw [List.length_append, ly]; rfl, fun y hy => ?_, ?_, ?_⟩
        · rcases List.mem_append.mp hy with h | h
          · exact l1 y h
          · rw [List.mem_singleton.mp h]
            refine ⟨Nat.le_refl _, fun z hz => ?_⟩
            have ez : z = ch := List.mem_singleton.mp hz
            rw [ez]
            exact (by decide +kernel : ∀ c ∈ (PySem.Str.ofString " !\"#$&'()*+,-./0123456789:;<=>?@ABCDEFGHIJKLMNOPQRSTUVWXYZ[\\]^_`abcdefghijklmnopqrstuvwxyz{|}~").cps.toList, 32 ≤ c ∧ c < 127 ∧ c ≠ 37) ch mch
        · exact Gw.over gw4 (gw.free nD (rg3.free nD).1)
        · exact rg4.upd (rg3.free nD)
    · obtain ⟨ys, eD, ly, l1, gw4, rg4⟩ := hP
      have hs : (ys.map (·.length)).sum ≤ m := join_len ys m (fun y hy => (l1 y hy).1) (by omega)
      refine ⟨_, D, ys, rfl, rfl, .inl (SqL.of eD), ?_, ?_⟩
      · show (ys.map (·.length)).sum + ys.length * 0 ≤ _
        omega
      · exact q _ _ ⟨_, rfl, Pr.join fun y hy => (l1 y hy).2, by rw [join_size]; exact hs⟩ gw4 rg4
end
end K1
namespace K1
open PySem PySem.Spec PyProof.Rows L2 Ow
abbrev s_law_value : Stmt := topS 24
abbrev N_law_value : List Str := ["state", "pick", "number", "k"]
theorem sc_law_value : FnScope N_law_value ["state"] (defScope s_law_value) := ⟨rfl, rfl, rfl, by decide +kernel, rfl, by decide +kernel, by decide +kernel⟩
section
variable {P : Program} {w : World} {K : PySem.W.Frag} {mg : Str → Option Value} {base : Heap}
theorem ok_value {f : Addr} {fd : FuncData} (F : Fun K "_law_value" "_law_value" s_law_value f fd) (T : Bl mg)
    (D_law_next : Kn P w K mg base 3 "_law_next" ["state", "limit"] spNext)
    (D_law_text : Kn P w K mg base 4 "_law_text" ["state", "most"] spText) :
    FnOk P w K mg base CX0 5 f fd ["state"] spValue := by
  refine F.ok sc_law_value (fun vs H Q E h => ?_) (fun cdv A outer s H vs Q E hr h => ?_)
  · obtain ⟨p, d, rfl, _⟩ := h
    rfl
  · obtain ⟨p, d, rfl, rg, q⟩ := h
    refine ⟨_, (pss_cons (ps_set (i := 1) sc_law_value.nd rfl (.inl rfl) (pe_kn D_law_next hr (pa_cons (pv 0) (pa_cons pe_int pa_nil))))
      (pss_cons (ps_if (pt_cmpR op_lt (pv 1) pe_int (nomark _)) (pss_one (ps_ret (pe_op op_sub (pe_kn D_law_next hr (pa_cons (pv 0) (pa_cons pe_int pa_nil))) pe_int))) pss_nil)
      (pss_cons (ps_if (pt_cmpR op_eq (pv 1) pe_int (nomark _)) (pss_cons (ps_set (i := 2) sc_law_value.nd rfl (.inl rfl) pe_int)
      (pss_cons (ps_for PassesOwn.never rfl (pi_range1 (by rfl) T.range (pa_cons (pe_op op_add pe_int (pe_kn D_law_next hr (pa_cons (pv 0) (pa_cons pe_int pa_nil)))) pa_nil)) (pg_name (i := 3) sc_law_value.nd rfl (.inl rfl)) (pss_one (ps_set (i := 2) sc_law_value.nd rfl (.inl rfl) (pe_op op_add (pe_op op_mul (pv 2) pe_int) (pe_kn D_law_next hr (pa_cons (pv 0) (pa_cons pe_int pa_nil)))))))
      (pss_one (ps_ret (pe_op op_mul (pv 2) (pe_ix ix_list (pe_lst (pa_cons pe_int (pa_cons (pe_un un_neg pe_int) pa_nil))) (pe_kn D_law_next hr (pa_cons (pv 0) (pa_cons pe_int pa_nil))) (fun _ _ => rfl))))))) pss_nil)
      (pss_cons (ps_if (pt_cmpR op_eq (pv 1) pe_int (nomark _)) (pss_one (ps_ret (pe_ix ix_list (pe_lst (pa_cons (pe_op op_sub (pe_op op_pow pe_int pe_int) pe_int) (pa_cons (pe_op op_sub pe_int (pe_op op_pow pe_int pe_int)) (pa_cons pe_int (pa_cons pe_int (pa_cons (pe_un un_neg pe_int) (pa_cons pe_int pa_nil))))))) (pe_kn D_law_next hr (pa_cons (pv 0) (pa_cons pe_int pa_nil))) (fun _ _ => rfl)))) pss_nil)
      (pss_cons (ps_if (pt_cmpR op_lt (pv 1) pe_int (nomark _)) (pss_one (ps_ret (pe_ix ix_list (pe_lst (pa_cons pe_str (pa_cons pe_str (pa_cons pe_str (pa_cons pe_str (pa_cons pe_str (pa_cons pe_str (pa_cons pe_str pa_nil)))))))) (pe_kn D_law_next hr (pa_cons (pv 0) (pa_cons pe_int pa_nil))) (fun _ _ => rfl)))) pss_nil)
      (pss_one (ps_ret (pe_kn D_law_text hr (pa_cons (pv 0) (pa_cons pe_int pa_nil)))))))))), ?_⟩
    refine ⟨_, rfl, p, d, 9, rfl, by decide, rg, ?_⟩
    rintro x1 H1 ⟨b, rfl, b0, b1⟩ gw1 rg1
    refine ⟨_, rfl, _, _, rfl, rfl, _, rfl, ite2 (fun e => ?_) (fun e => ?_)⟩
    · refine ⟨_, rfl, p, d, 5, rfl, by decide, rg1, ?_⟩
      rintro x2 H2 ⟨c, rfl, c0, c1⟩ gw2 rg2
      exact ⟨c, 2, rfl, rfl, q _ _ (.inl ⟨_, rfl, by omega⟩) (gw1.trans gw2) rg2⟩
    refine ⟨_, rfl, rfl, _, rfl, ite2 (fun e => ?_) (fun e => ?_)⟩
    · refine ⟨_, rfl, p, d, 7, rfl, by decide, rg1, ?_⟩
      rintro x2 H2 ⟨c, rfl, c0, c1⟩ gw2 rg2
      refine ⟨1, c, rfl, rfl, 1 + c, rfl, by omega, by omega, for_range (lo := 0) (n := (1 + c).toNat) (fun i σ H3 => ∃ (n : Int) (y3 : Option V),
        σ = [some (.ref p), some (.int b), some (.int n), y3] ∧ 0 ≤ n ∧ n < 9973 ^ i ∧ Gw p H H3 ∧ Rng d H3 p) ⟨0, none, rfl, by decide, by decide, gw1.trans gw2, rg2⟩ (fun i σ H3 hi hP => ?_) (fun σ H3 hP => ?_)⟩
      · obtain ⟨n, y3, rfl, n0, n1, gw3, rg3⟩ := hP
        refine ⟨_, rfl, n, 9973, rfl, rfl, .inr ⟨by decide, by decide⟩, _, rfl, p, d, 9973, rfl, by decide, rg3, ?_⟩
        rintro x4 H4 ⟨z, rfl, z0, z1⟩ gw4 rg4
        exact ⟨_, _, rfl, rfl, _, _, rfl, by omega, by rw [Int.pow_succ]; omega, gw3.trans gw4, rg4⟩
      · obtain ⟨n, y3, rfl, n0, n1, gw3, rg3⟩ := hP
        have n2 : n < 9973 ^ 7 := by
          have : (1 + c).toNat ≤ 7 := by omega
          have h := Nat.pow_le_pow_right (n := 9973) (by decide) this
          have h' : ((9973 ^ (1 + c).toNat : Nat) : Int) ≤ ((9973 ^ 7 : Nat) : Int) := by omega
          rw [Int.natCast_pow, Int.natCast_pow] at h'
          exact Int.lt_of_lt_of_le n1 h'
        refine ⟨_, rfl, 1, rfl, by decide, fun o no => ⟨_, rfl, p, d, 2, rfl, by decide, rg3.same (Same.new no), ?_⟩⟩
        rintro x5 H5 ⟨v, rfl, v0, v1⟩ gw5 rg5
        obtain ⟨y, hy, my⟩ := at_in (xs := [V.int 1, V.int (-1)]) v0 v1
        refine ⟨o, _, v, y, rfl, rfl, SqL.of (gw5.keep upd_same (rg3.free no).1), hy, ?_⟩
        have gw6 : Gw p H H5 := (gw3.trans (Gw.new no)).trans gw5
        simp only [List.mem_cons, List.not_mem_nil, or_false] at my
        rcases my with rfl | rfl
        · exact ⟨n, 1, rfl, rfl, .inr ⟨by decide, by decide⟩, q _ _ (.inl ⟨_, rfl, by omega⟩) gw6 rg5⟩
        · exact ⟨n, -1, rfl, rfl, .inr ⟨by decide, by decide⟩, q _ _ (.inl ⟨_, rfl, by omega⟩) gw6 rg5⟩
    refine ⟨_, rfl, rfl, _, rfl, ite2 (fun e => ?_) (fun e => ?_)⟩
    · refine ⟨10, 30, rfl, rfl, ⟨by decide, by decide, by decide⟩, _, 1, rfl, rfl, 10, 30, rfl, rfl, ⟨by decide, by decide, by decide⟩, 1, _, rfl, rfl, 128, rfl, by decide, fun o no => ⟨_, rfl, p, d, 6, rfl, by decide, rg1.same (Same.new no), ?_⟩⟩
      rintro x5 H5 ⟨v, rfl, v0, v1⟩ gw5 rg5
      obtain ⟨y, hy, my⟩ := at_in (xs := [V.int ((10 : Int) ^ (30 : Int).toNat - 1), V.int (1 - (10 : Int) ^ (30 : Int).toNat), V.int 127, V.int 128, V.int (-128), V.int 16384]) v0 v1
      refine ⟨o, _, v, y, rfl, rfl, SqL.of (gw5.keep upd_same (rg1.free no).1), hy, q _ _ ?_ ((gw1.trans (Gw.new no)).trans gw5) rg5⟩
      simp only [List.mem_cons, List.not_mem_nil, or_false] at my
      rcases my with rfl | rfl | rfl | rfl | rfl | rfl <;> exact .inl ⟨_, rfl, by decide⟩
    refine ⟨_, rfl, _, _, rfl, rfl, _, rfl, ite2 (fun e => ?_) (fun e => ?_)⟩
    · refine ⟨by decide, fun o no => ⟨_, rfl, p, d, 7, rfl, by decide, rg1.same (Same.new no), ?_⟩⟩
      rintro x5 H5 ⟨v, rfl, v0, v1⟩ gw5 rg5
      obtain ⟨y, hy, my⟩ := at_in (xs := [V.str "", V.str "a", V.str "b", V.str "ab", V.str "a ", V.str "0", V.str "1"]) v0 v1
      refine ⟨o, _, v, y, rfl, rfl, SqL.of (gw5.keep upd_same (rg1.free no).1), hy, q _ _ ?_ ((gw1.trans (Gw.new no)).trans gw5) rg5⟩
      simp only [List.mem_cons, List.not_mem_nil, or_false] at my
      rcases my with rfl | rfl | rfl | rfl | rfl | rfl | rfl <;> exact .inr ⟨_, rfl, by decide +kernel, by decide +kernel⟩
    · refine ⟨_, rfl, p, d, 30, rfl, by decide, rg1, ?_⟩
      rintro x2 H2 ⟨z, rfl, pz, lz⟩ gw2 rg2
      exact q _ _ (.inr ⟨_, rfl, pz, by omega⟩) (gw1.trans gw2) rg2
end
end K1
namespace K1
open PySem PySem.Spec PyProof.Rows L2 Ow
abbrev N_law_small : List Str := ["state", "pick"]
section
variable {P : Program} {w : World} {K : PySem.W.Frag} {mg : Str → Option Value} {base : Heap}
end
end K1
namespace K1
open PySem PySem.Spec PyProof.Rows L2 Ow Tlz
/-! the order of rows -/
theorem cps_inj {x y : Str} (h : x.cps.toList = y.cps.toList) : x = y := by
  cases x
  cases y
  simp only [Str.mk.injEq]
  exact Array.toList_inj.mp h
theorem str_tot (x y : Str) : x.cps.toList < y.cps.toList ∨ x = y ∨ y.cps.toList < x.cps.toList := by
  by_cases h1 : x.cps.toList < y.cps.toList
  · exact .inl h1
  · by_cases h2 : y.cps.toList < x.cps.toList
    · exact .inr (.inr h2)
    · exact .inr (.inl (cps_inj (List.le_antisymm h2 h1)))
theorem first_tot {x y : V} (sx : Scal x) (sy : Scal y) : firstV x y = true ∨ x = y ∨ firstV y x = true := by
  rcases sx with ⟨i, rfl, _⟩ | ⟨x, rfl, _⟩ <;> rcases sy with ⟨j, rfl, _⟩ | ⟨y, rfl, _⟩
  · rcases Int.lt_trichotomy i j with h | h | h
    · exact .inl (decide_eq_true h)
    · exact .inr (.inl (by rw [h]))
    · exact .inr (.inr (decide_eq_true h))
  · exact .inl rfl
  · exact .inr (.inr rfl)
  · rcases str_tot x y with h | h | h
    · exact .inl (decide_eq_true h)
    · exact .inr (.inl (by rw [h]))
    · exact .inr (.inr (decide_eq_true h))
theorem first_irr {x : V} (sx : Scal x) : firstV x x = false := by
  rcases sx with ⟨i, rfl, _⟩ | ⟨x, rfl, _⟩
  · exact decide_eq_false (by omega)
  · exact decide_eq_false (List.lt_irrefl _)
theorem first_trans {x y z : V} (sx : Scal x) (sy : Scal y) (sz : Scal z) (h : firstV x y = true) (g : firstV y z = true) : firstV x z = true := by
  rcases sx with ⟨i, rfl, _⟩ | ⟨x, rfl, _⟩ <;> rcases sy with ⟨j, rfl, _⟩ | ⟨y, rfl, _⟩ <;> rcases sz with ⟨k, rfl, _⟩ | ⟨z, rfl, _⟩
  · have a : i < j := of_decide_eq_true h
    have b : j < k := of_decide_eq_true g
    exact decide_eq_true (by omega)
  · rfl
  · exact absurd (show false = true from g) Bool.false_ne_true
  · rfl
  · exact absurd (show false = true from h) Bool.false_ne_true
  · exact absurd (show false = true from h) Bool.false_ne_true
  · exact absurd (show false = true from g) Bool.false_ne_true
  · have a : x.cps.toList < y.cps.toList := of_decide_eq_true h
    have b : y.cps.toList < z.cps.toList := of_decide_eq_true g
    exact decide_eq_true (List.lt_trans a b)
def Rlt (xs ys : List V) : Prop := orderV xs ys < 0
instance (xs ys : List V) : Decidable (Rlt xs ys) := inferInstanceAs (Decidable (_ < _))
theorem order_cons (x y : V) (xs ys : List V) : orderV (x :: xs) (y :: ys) = if firstV x y = true then -1 else if firstV y x = true then 1 else orderV xs ys := by
  rw [orderV]
theorem rlt_cons {x y : V} {xs ys : List V} (sx : Scal x) (sy : Scal y) : Rlt (x :: xs) (y :: ys) ↔ firstV x y = true ∨ (x = y ∧ Rlt xs ys) := by
  unfold Rlt
  rw [order_cons]
  rcases first_tot sx sy with h | h | h
  · rw [if_pos h]
    exact ⟨fun _ => .inl h, fun _ => by decide⟩
  · subst h
    rw [first_irr sx, if_neg Bool.false_ne_true, if_neg Bool.false_ne_true]
    exact ⟨fun z => .inr ⟨rfl, z⟩, fun z => z.elim (fun w => absurd w Bool.false_ne_true) (·.2)⟩
  · have h2 := first_asym sy sx h
    rw [h2, if_neg Bool.false_ne_true, if_pos h]
    refine ⟨fun z => absurd z (by decide), fun z => z.elim (fun w => absurd w Bool.false_ne_true) fun w => ?_⟩
    rw [w.1, first_irr sy] at h
    exact absurd h Bool.false_ne_true
theorem rlt_trans : ∀ {xs ys zs : List V}, (∀ x ∈ xs, Scal x) → (∀ y ∈ ys, Scal y) → (∀ z ∈ zs, Scal z) → Rlt xs ys → Rlt ys zs → Rlt xs zs
  | [], [], _, _, _, _, h, _ => absurd h (by decide)
  | [], _ :: _, [], _, _, _, _, g => absurd g (by unfold Rlt orderV; decide)
  | [], _ :: _, _ :: _, _, _, _, _, _ => by unfold Rlt orderV; decide
  | _ :: _, [], _, _, _, _, h, _ => absurd h (by unfold Rlt orderV; decide)
  | _ :: _, _ :: _, [], _, _, _, _, g => absurd g (by unfold Rlt orderV; decide)
  | x :: xs, y :: ys, z :: zs, hx, hy, hz, h, g => by
    have sx := hx x List.mem_cons_self
    have sy := hy y List.mem_cons_self
    have sz := hz z List.mem_cons_self
    rw [rlt_cons sx sy] at h
    rw [rlt_cons sy sz] at g
    rw [rlt_cons sx sz]
    rcases h with h | ⟨e, h⟩ <;> rcases g with g | ⟨e2, g⟩
    · exact .inl (first_trans sx sy sz h g)
    · rw [← e2]; exact .inl h
    · rw [e]; exact .inl g
    · exact .inr ⟨e.trans e2, rlt_trans (fun v m => hx v (List.mem_cons_of_mem _ m)) (fun v m => hy v (List.mem_cons_of_mem _ m)) (fun v m => hz v (List.mem_cons_of_mem _ m)) h g⟩
theorem rlt_irr {xs : List V} (hx : ∀ x ∈ xs, Scal x) : ¬ Rlt xs xs := by
  induction xs with
  | nil => decide
  | cons x xs ih =>
    rw [rlt_cons (hx x List.mem_cons_self) (hx x List.mem_cons_self)]
    intro h
    rcases h with h | ⟨_, h⟩
    · rw [first_irr (hx x List.mem_cons_self)] at h
      exact Bool.false_ne_true h
    · exact ih (fun v m => hx v (List.mem_cons_of_mem _ m)) h
/-! lists of rows -/
def rrefs (rs : List (Addr × List V)) : List V := rs.map fun t => .ref t.1
def RowsOk (K : PySem.W.Frag) (H : Hp) (rs : List (Addr × List V)) : Prop := ∀ t ∈ rs, SqT K H t.1 t.2 ∧ (∀ x ∈ t.2, Scal x) ∧ t.2.length ≤ 10
theorem rrefs_get {rs : List (Addr × List V)} {i : Nat} {x : V} (h : (rrefs rs)[i]? = some x) : ∃ t, rs[i]? = some t ∧ x = .ref t.1 := by
  unfold rrefs at h
  rw [List.getElem?_map] at h
  cases e : rs[i]? with
  | none => rw [e] at h; cases h
  | some t => rw [e] at h; exact ⟨t, rfl, (Option.some.inj h).symm⟩
theorem rrefs_at {rs : List (Addr × List V)} {i : Nat} {t : Addr × List V} (h : rs[i]? = some t) : (rrefs rs)[i]? = some (.ref t.1) := by
  unfold rrefs
  rw [List.getElem?_map, h]
  rfl
theorem RowsOk.tk {K : PySem.W.Frag} {H H' : Hp} {rs : List (Addr × List V)} (t : Tk K H H') (h : RowsOk K H rs) : RowsOk K H' rs := fun u m => ⟨t _ _ (h u m).1, (h u m).2⟩
theorem RowsOk.snoc {K : PySem.W.Frag} {H : Hp} {rs : List (Addr × List V)} {q : Addr} {xs : List V} (h : RowsOk K H rs) (hq : SqT K H q xs) (sx : ∀ x ∈ xs, Scal x) (lx : xs.length ≤ 10) : RowsOk K H (rs ++ [(q, xs)]) := by
  intro u m
  rcases List.mem_append.mp m with m | m
  · exact h u m
  · rw [List.mem_singleton.mp m]
    exact ⟨hq, sx, lx⟩
theorem rrefs_snoc {rs : List (Addr × List V)} {t : Addr × List V} : rrefs (rs ++ [t]) = rrefs rs ++ [.ref t.1] := by
  unfold rrefs
  rw [List.map_append]
  rfl
theorem rrefs_len (rs : List (Addr × List V)) : (rrefs rs).length = rs.length := by unfold rrefs; rw [List.length_map]
theorem RowsOk.same {K : PySem.W.Frag} {H H' : Hp} {rs : List (Addr × List V)} (s : Same H H') (h : RowsOk K H rs) : RowsOk K H' rs := h.tk (Tk.same s)
/-- the rows stand in their order -/
def Srt (rs : List (Addr × List V)) : Prop := rs.Pairwise fun a b => Rlt a.2 b.2
/-- n is the first place whose row is not before row -/
def Place (rs : List (Addr × List V)) (row : List V) (n : Nat) : Prop := (∀ j t, j < n → rs[j]? = some t → Rlt t.2 row) ∧ ∀ j t, n ≤ j → rs[j]? = some t → ¬ Rlt t.2 row
def spPlace (K : PySem.W.Frag) : Sp := fun vs H Q _ => ∃ (l r : Addr) (rs : List (Addr × List V)) (row : List V), vs = [.ref l, .ref r] ∧ SqL K H l (rrefs rs) ∧ RowsOk K H rs ∧ SqT K H r row ∧ (∀ x ∈ row, Scal x) ∧ row.length ≤ 10 ∧ rs.length ≤ 1000 ∧
  ∀ (n : Nat) H', n ≤ rs.length → (Srt rs → Place rs row n) → Same H H' → Q (.int (n : Int)) H'
abbrev splace_of : Stmt := topS 6
abbrev Nplace_of : List Str := ["rows", "row", "wanted", "low", "high", "middle"]
theorem scplace_of : FnScope Nplace_of ["rows", "row"] (defScope splace_of) := ⟨rfl, rfl, rfl, by decide +kernel, rfl, by decide +kernel, by decide +kernel⟩
def muP : L2.St → Hp → Nat := fun σ _ => match σ with
  | _ :: _ :: _ :: some (.int lo) :: some (.int hi) :: _ => (hi - lo).toNat
  | _ => 0
theorem srt_lt {rs : List (Addr × List V)} (h : Srt rs) {i j : Nat} {a b : Addr × List V} (ha : rs[i]? = some a) (hb : rs[j]? = some b) (l : i < j) : Rlt a.2 b.2 := by
  obtain ⟨pa, ea⟩ := List.getElem?_eq_some_iff.mp ha
  obtain ⟨pb, eb⟩ := List.getElem?_eq_some_iff.mp hb
  rw [← ea, ← eb]
  exact List.pairwise_iff_getElem.mp h i j pa pb l
section
variable {P : Program} {w : World} {K : PySem.W.Frag} {mg : Str → Option Value} {base : Heap}
theorem ok_place {f : Addr} {fd : FuncData} (F : Fun K "place_of" "place_of" splace_of f fd) (T : Bl mg)
    (Drow_key : Kn P w K mg base 2 "row_key" ["row"] (spRKey K)) :
    FnOk P w K mg base CX0 3 f fd ["rows", "row"] (spPlace K) := by
  refine F.ok scplace_of (fun vs H Q E h => ?_) (fun cdv A outer s H vs Q E hr h => ?_)
  · obtain ⟨l, r, rs, row, rfl, _⟩ := h
    rfl
  · obtain ⟨l, r, rs, row, rfl, hl, hR, hrow, sr, lr, lrs, q⟩ := h
    refine ⟨_, (pss_cons (ps_set (i := 2) scplace_of.nd rfl (.inl rfl) (pe_kn Drow_key hr (pa_cons (pv 1) pa_nil)))
      (pss_cons (ps_set (i := 3) scplace_of.nd rfl (.inl rfl) pe_int)
      (pss_cons (ps_set (i := 4) scplace_of.nd rfl (.inl rfl) (pe_callB call_len_seq (by rfl) T.len PySem.boot_len (pa_cons (pv 0) pa_nil)))
      (pss_cons (ps_while PassesOwn.never (pt_cmpR op_lt (pv 3) (pv 4) (nomark _))
        (pss_cons (ps_set (i := 5) scplace_of.nd rfl (.inl rfl) (pe_op op_fdiv (pe_op op_add (pv 3) (pv 4)) pe_int))
        (pss_one (ps_if (pt_cmpR (op_ltK hr) (pe_kn Drow_key hr (pa_cons (pe_ix ix_list (pv 0) (pv 5) (fun _ _ => rfl)) pa_nil)) (pv 2) (nomark _))
          (pss_one (ps_set (i := 3) scplace_of.nd rfl (.inl rfl) (pe_op op_add (pv 5) pe_int)))
          (pss_one (ps_set (i := 4) scplace_of.nd rfl (.inl rfl) (pv 5)))))))
      (pss_one (ps_ret (pv 3))))))), ?_⟩
    refine ⟨_, rfl, r, row, rfl, hrow, sr, by omega, fun y H1 dy s1 => ?_⟩
    refine ⟨_, rfl, l, rrefs rs, rfl, .inl (s1.seq hl), ?_⟩
    refine while_by (fun σ H2 => ∃ (lo hi : Nat) (y5 : Option V), σ = [some (.ref l), some (.ref r), some y, some (.int (lo : Int)), some (.int (hi : Int)), y5] ∧ Same H1 H2 ∧ lo ≤ hi ∧ hi ≤ rs.length ∧
        (Srt rs → (∀ j t, j < lo → rs[j]? = some t → Rlt t.2 row) ∧ ∀ j t, hi ≤ j → rs[j]? = some t → ¬ Rlt t.2 row)) muP
      ⟨0, rs.length, none, by rw [rrefs_len]; rfl, Same.refl _, Nat.zero_le _, Nat.le_refl _, fun _ => ⟨fun j t h => absurd h (Nat.not_lt_zero _), fun j t h e => by
        have := (List.getElem?_eq_some_iff.mp e).1
        omega⟩⟩ ?_ ?_
    · rintro σ H2 ⟨lo, hi, y5, rfl, s2, h1, h2, inv⟩
      refine ⟨_, rfl, _, rfl, _, _, rfl, rfl, _, rfl, ite2 (fun e => ?_) (fun e => ?_)⟩
      · have e1 : (lo : Int) < (hi : Int) := of_decide_eq_true e
        have lm : (lo + hi) / 2 < rs.length := by omega
        have em := List.getElem?_eq_getElem lm
        generalize hm : (lo + hi) / 2 = m at lm em
        obtain ⟨ht, st, lt⟩ := hR rs[m] (List.getElem_mem lm)
        have emi : (((lo : Int) + (hi : Int)) / 2) = ((m : Nat) : Int) := by omega
        refine ⟨_, rfl, _, rfl, _, _, rfl, rfl, _, 2, rfl, rfl, ⟨by decide, by decide⟩, ?_⟩
        refine ⟨_, rfl, _, rfl, l, rrefs rs, _, _, rfl, rfl, (s1.trans s2).seq hl, at_of (j := m) (by omega) (rrefs_at em), rs[m].1, rs[m].2, rfl, Tk.same (s1.trans s2) _ _ ht, st, by omega, fun z H3 dz s3 => ?_⟩
        obtain ⟨ag, okd⟩ := Agr.row st sr
        refine ⟨_, rfl, 2, _, _, ⟨dz, Dp.tk (Tk.same (s2.trans s3)) _ _ (noL_rk row) dy, lay_rk st, lay_rk sr, deep_rk _, deep_rk _, okd, by decide⟩, _, rfl, ?_⟩
        rw [ag.lt]
        refine ite2 (fun e2 => ?_) (fun e2 => ?_)
        · have e3 : Rlt rs[m].2 row := of_decide_eq_true e2
          have e5 : ([some (.ref l), some (.ref r), some y, some (.int (((lo : Int) + (hi : Int)) / 2 + 1)), some (.int (hi : Int)), some (.int (((lo : Int) + (hi : Int)) / 2))] : L2.St) =
              [some (.ref l), some (.ref r), some y, some (.int ((m + 1 : Nat) : Int)), some (.int (hi : Int)), some (.int (((lo : Int) + (hi : Int)) / 2))] := by
            rw [emi]
            rfl
          refine ⟨_, rfl, _, _, rfl, rfl, ⟨m + 1, hi, some (.int (((lo : Int) + (hi : Int)) / 2)), e5, s2.trans s3, by omega, h2, fun srt => ⟨fun j t hj et => ?_, (inv srt).2⟩⟩, ?_⟩
          · by_cases ej : j = m
            · subst ej
              rw [em] at et
              rw [← Option.some.inj et]
              exact e3
            · exact rlt_trans (hR t (List.mem_of_getElem? et)).2.1 st sr (srt_lt srt et em (by omega)) e3
          · show ((hi : Int) - (((lo : Int) + (hi : Int)) / 2 + 1)).toNat < ((hi : Int) - (lo : Int)).toNat
            omega
        · have e3 : ¬ Rlt rs[m].2 row := fun z => e2 (decide_eq_true z)
          have e5 : ([some (.ref l), some (.ref r), some y, some (.int (lo : Int)), some (.int (((lo : Int) + (hi : Int)) / 2)), some (.int (((lo : Int) + (hi : Int)) / 2))] : L2.St) =
              [some (.ref l), some (.ref r), some y, some (.int (lo : Int)), some (.int (m : Int)), some (.int (((lo : Int) + (hi : Int)) / 2))] := by
            rw [emi]
          refine ⟨_, rfl, ⟨lo, m, some (.int (((lo : Int) + (hi : Int)) / 2)), e5, s2.trans s3, by omega, by omega, fun srt => ⟨(inv srt).1, fun j t hj et => ?_⟩⟩, ?_⟩
          · by_cases ej : j = m
            · subst ej
              rw [em] at et
              rw [← Option.some.inj et]
              exact e3
            · intro z
              exact e3 (rlt_trans st (hR t (List.mem_of_getElem? et)).2.1 sr (srt_lt srt em et (by omega)) z)
          · show ((((lo : Int) + (hi : Int)) / 2) - (lo : Int)).toNat < ((hi : Int) - (lo : Int)).toNat
            omega
      · have e1 : ¬ (lo : Int) < (hi : Int) := fun z => e (decide_eq_true z)
        have e2 : hi = lo := by omega
        subst e2
        exact ⟨_, rfl, q hi _ h2 inv (s1.trans s2)⟩
    · rintro σ H2 Q1 Q2 hq ⟨v, hv, u, hu, i, j, hi, hj, k, hk, z⟩
      exact ⟨v, hv, u, hu, i, j, hi, hj, k, hk, hq _ _ z⟩
end
end K1
namespace K1
open PySem PySem.Spec PyProof.Rows L2 Ow Tlz
/-! tables by names -/
section
variable {β : Type}
def valG (l : List (Str × β)) (k : Str) : Option β := (l.find? fun e => decide (e.1 = k)).map (·.2)
def putG (l : List (Str × β)) (k : Str) (b : β) : List (Str × β) := if (l.any fun e => decide (e.1 = k)) = true then l.map (fun e => if e.1 = k then (e.1, b) else e) else l ++ [(k, b)]
def kvG (vv : β → V) (l : List (Str × β)) : List (Key × V) := l.map fun e => ((Sum.inr e.1 : Key), vv e.2)
theorem inr_iff (a b : Str) : ((Sum.inr a : Key) = Sum.inr b) ↔ a = b := ⟨fun h => Sum.inr.inj h, fun h => by rw [h]⟩
theorem kvG_any (vv : β → V) (l : List (Str × β)) (k : Str) : ((kvG vv l).any fun e => decide (e.1 = (Sum.inr k : Key))) = l.any fun e => decide (e.1 = k) := by
  unfold kvG
  rw [List.any_map]
  congr 1
  funext e
  exact decide_eq_decide.mpr (inr_iff _ _)
theorem kvG_put (vv : β → V) (l : List (Str × β)) (k : Str) (b : β) : putK (kvG vv l) (Sum.inr k) (vv b) = kvG vv (putG l k b) := by
  unfold putK putG
  rw [kvG_any]
  split
  · unfold kvG
    rw [List.map_map, List.map_map]
    refine List.map_congr_left fun e _ => ?_
    show (if (Sum.inr e.1 : Key) = Sum.inr k then ((Sum.inr e.1 : Key), vv b) else (Sum.inr e.1, vv e.2)) = _
    by_cases h : e.1 = k
    · rw [if_pos ((inr_iff _ _).mpr h)]
      show _ = ((Sum.inr (if e.1 = k then (e.1, b) else e).1 : Key), vv (if e.1 = k then (e.1, b) else e).2)
      rw [if_pos h]
    · rw [if_neg (fun z => h ((inr_iff _ _).mp z))]
      show _ = ((Sum.inr (if e.1 = k then (e.1, b) else e).1 : Key), vv (if e.1 = k then (e.1, b) else e).2)
      rw [if_neg h]
  · unfold kvG
    rw [List.map_append]
    rfl
theorem kvG_val (vv : β → V) (k : Str) : ∀ l : List (Str × β), valV (kvG vv l) (Sum.inr k) = (valG l k).map vv
  | [] => rfl
  | e :: l => by
    have ih := kvG_val vv k l
    by_cases h : e.1 = k
    · have h1 : valV (kvG vv (e :: l)) (Sum.inr k) = some (vv e.2) := valV_pos (p := ((Sum.inr e.1 : Key), vv e.2)) ((inr_iff _ _).mpr h)
      rw [h1]
      unfold valG
      rw [List.find?_cons, decide_eq_true h]
      rfl
    · have h1 : valV (kvG vv (e :: l)) (Sum.inr k) = valV (kvG vv l) (Sum.inr k) := valV_neg (p := ((Sum.inr e.1 : Key), vv e.2)) (fun z => h ((inr_iff _ _).mp z))
      rw [h1, ih]
      unfold valG
      rw [List.find?_cons, decide_eq_false h]
theorem valG_mem {l : List (Str × β)} {k : Str} {b : β} (h : valG l k = some b) : (k, b) ∈ l := by
  unfold valG at h
  cases e : l.find? fun e => decide (e.1 = k) with
  | none => rw [e] at h; cases h
  | some x =>
    rw [e] at h
    have h1 := List.find?_some e
    have h2 := List.mem_of_find?_eq_some e
    have h3 : x.1 = k := of_decide_eq_true h1
    have h4 : x.2 = b := Option.some.inj h
    rw [← h3, ← h4]
    exact h2
theorem valG_none {l : List (Str × β)} {k : Str} (h : valG l k = none) : ∀ e ∈ l, e.1 ≠ k := by
  unfold valG at h
  intro e m he
  cases z : l.find? fun e => decide (e.1 = k) with
  | none =>
    have := List.find?_eq_none.mp z e m
    exact this (decide_eq_true he)
  | some x => rw [z] at h; cases h
theorem any_val (l : List (Str × β)) (k : Str) : (l.any fun e => decide (e.1 = k)) = (valG l k).isSome := by
  cases h : valG l k with
  | none =>
    rw [Option.isSome_none, List.any_eq_false]
    intro e m
    rw [decide_eq_false (valG_none h e m)]
    exact Bool.false_ne_true
  | some b =>
    rw [Option.isSome_some, List.any_eq_true]
    exact ⟨_, valG_mem h, decide_eq_true rfl⟩
theorem putG_new {l : List (Str × β)} {k : Str} (b : β) (h : valG l k = none) : putG l k b = l ++ [(k, b)] := by
  unfold putG
  rw [any_val, h]
  rfl
theorem putG_len (l : List (Str × β)) (k : Str) (b : β) : (putG l k b).length ≤ l.length + 1 := by
  unfold putG
  split
  · rw [List.length_map]; omega
  · rw [List.length_append]; exact Nat.le_refl _
theorem putG_mem {l : List (Str × β)} {k : Str} {b : β} {e : Str × β} (h : e ∈ putG l k b) : e = (k, b) ∨ (e ∈ l ∧ e.1 ≠ k) := by
  unfold putG at h
  split at h
  · obtain ⟨x, mx, ex⟩ := List.mem_map.mp h
    by_cases z : x.1 = k
    · rw [if_pos z] at ex
      rw [← ex, z]
      exact .inl rfl
    · rw [if_neg z] at ex
      rw [← ex]
      exact .inr ⟨mx, z⟩
  · rename_i a
    rcases List.mem_append.mp h with m | m
    · refine .inr ⟨m, fun z => a ?_⟩
      rw [List.any_eq_true]
      exact ⟨e, m, decide_eq_true z⟩
    · exact .inl (List.mem_singleton.mp m)
theorem putG_keys (l : List (Str × β)) (k : Str) (b : β) : (putG l k b).map (·.1) = if (valG l k).isSome = true then l.map (·.1) else l.map (·.1) ++ [k] := by
  unfold putG
  rw [any_val]
  split
  · rw [List.map_map]
    refine List.map_congr_left fun e _ => ?_
    show (if e.1 = k then (e.1, b) else e).1 = e.1
    split <;> rfl
  · rw [List.map_append]
    rfl
theorem putG_nodup {l : List (Str × β)} {k : Str} {b : β} (h : (l.map (·.1)).Nodup) : ((putG l k b).map (·.1)).Nodup := by
  rw [putG_keys]
  split
  · exact h
  · rename_i z
    rw [List.nodup_append]
    refine ⟨h, by simp, fun a ma c mc => ?_⟩
    rw [List.mem_singleton.mp mc]
    rintro rfl
    obtain ⟨e, me, ee⟩ := List.mem_map.mp ma
    cases w : valG l a with
    | none => exact valG_none w e me ee
    | some _ => rw [w] at z; exact z rfl
theorem valG_of {l : List (Str × β)} {k : Str} {b : β} (nd : (l.map (·.1)).Nodup) (h : (k, b) ∈ l) : valG l k = some b := by
  induction l with
  | nil => cases h
  | cons e l ih =>
    rw [List.map_cons, List.nodup_cons] at nd
    unfold valG
    rw [List.find?_cons]
    rcases List.mem_cons.mp h with z | z
    · rw [← z, decide_eq_true rfl]
      rfl
    · have ne : e.1 ≠ k := fun w => nd.1 (List.mem_map.mpr ⟨_, z, w.symm⟩)
      rw [decide_eq_false ne]
      exact ih nd.2 z
/-- what putG keeps of an addressed table when the address stays -/
theorem putG_kv {vv : β → V} {l : List (Str × β)} {k : Str} {a b : β} (nd : (l.map (·.1)).Nodup) (h : valG l k = some a) (e : vv b = vv a) : kvG vv (putG l k b) = kvG vv l := by
  unfold putG kvG
  rw [any_val, h, if_pos (show (some a).isSome = true from rfl), List.map_map]
  refine List.map_congr_left fun x mx => ?_
  show ((Sum.inr (if x.1 = k then (x.1, b) else x).1 : Key), vv (if x.1 = k then (x.1, b) else x).2) = _
  by_cases z : x.1 = k
  · have z2 : valG l k = some x.2 := valG_of nd (by rw [← z]; exact mx)
    rw [if_pos z, e]
    rw [h] at z2
    rw [Option.some.inj z2]
  · rw [if_neg z]
end
end K1
namespace K1
open PySem PySem.Spec PyProof.Rows L2 Ow Tlz
/-! a State at x -/
theorem k_fr : ¬ (("facts" : Str) = "relations") := by decide +kernel
theorem k_sr : ¬ (("structures" : Str) = "relations") := by decide +kernel
theorem k_sf : ¬ (("structures" : Str) = "facts") := by decide +kernel
theorem k_lr : ¬ (("layouts" : Str) = "relations") := by decide +kernel
theorem k_lf : ¬ (("layouts" : Str) = "facts") := by decide +kernel
theorem k_ls : ¬ (("layouts" : Str) = "structures") := by decide +kernel
/-- the attributes, in the order in which they are stored -/
def flds (dr df ds dl : V) : List (Str × V) := putF "layouts" dl (putF "structures" ds (putF "facts" df (putF "relations" dr [])))
theorem flds_r (dr df ds dl : V) : (flds dr df ds dl).lookup ("relations" : Str) = some dr := by
  unfold flds
  rw [lookup_putF, if_neg (fun z => k_lr z.symm), lookup_putF, if_neg (fun z => k_sr z.symm), lookup_putF, if_neg (fun z => k_fr z.symm), lookup_putF, if_pos rfl]
theorem flds_f (dr df ds dl : V) : (flds dr df ds dl).lookup ("facts" : Str) = some df := by
  unfold flds
  rw [lookup_putF, if_neg (fun z => k_lf z.symm), lookup_putF, if_neg (fun z => k_sf z.symm), lookup_putF, if_pos rfl]
theorem flds_s (dr df ds dl : V) : (flds dr df ds dl).lookup ("structures" : Str) = some ds := by
  unfold flds
  rw [lookup_putF, if_neg (fun z => k_ls z.symm), lookup_putF, if_pos rfl]
theorem flds_l (dr df ds dl : V) : (flds dr df ds dl).lookup ("layouts" : Str) = some dl := by
  unfold flds
  rw [lookup_putF, if_pos rfl]
structure Txt (K : PySem.W.Frag) (mg : Str → Option Value) (C : Addr) : Prop where
  cl : Cls K C
  nR : NoAttr K C "relations"
  nF : NoAttr K C "facts"
  nS : NoAttr K C "structures"
  nL : NoAttr K C "layouts"
  mgC : mg "State" = some (.ref C)
abbrev Tb := List (Str × Addr × List V)
abbrev Fb := List (Str × Addr × List (Addr × List V))
def kvR (R : Tb) : List (Key × V) := kvG (fun b => V.ref b.1) R
def kvF (F : Fb) : List (Key × V) := kvG (fun b => V.ref b.1) F
/-- Z: what the State alone has; b: the most rows of a name -/
structure StAt (K : PySem.W.Frag) (C : Addr) (Z : Addr → Prop) (H : Hp) (x dr df ds dl : Addr) (R : Tb) (F : Fb) (S : Tb) (L : List (Str × V)) (b : Nat) : Prop where
  ob : ∃ dx, H x = some (.ins C dx (flds (.ref dr) (.ref df) (.ref ds) (.ref dl)))
  r : H dr = some (.dK (kvR R))
  rt : ∀ e ∈ R, SqT K H e.2.1 e.2.2
  f : H df = some (.dK (kvF F))
  ft : ∀ e ∈ F, H e.2.1 = some (.lst (rrefs e.2.2)) ∧ RowsOk K H e.2.2 ∧ e.2.2.length ≤ b
  fz : ∀ e ∈ F, Z e.2.1
  fp : F.Pairwise fun a b => a.2.1 ≠ b.2.1
  fn : (F.map (·.1)).Nodup
  s : H ds = some (.dK (kvR S))
  st : ∀ e ∈ S, SqT K H e.2.1 e.2.2
  l : H dl = some (.dK (kvG id L))
  z : Z dr ∧ Z df ∧ Z ds ∧ Z dl ∧ ¬ Z x
  ne : dr ≠ df ∧ dr ≠ ds ∧ dr ≠ dl ∧ df ≠ ds ∧ df ≠ dl ∧ ds ≠ dl
  nw : ∀ a, H a = none → Z a
  ln : R.length ≤ b ∧ F.length ≤ b ∧ S.length ≤ b ∧ L.length ≤ b
/-- all that the State has not alone stays -/
def Kp (Z : Addr → Prop) (H H' : Hp) : Prop := ∀ a o, ¬ Z a → H a = some o → H' a = some o
theorem Kp.refl (Z : Addr → Prop) (H : Hp) : Kp Z H H := fun _ _ _ h => h
theorem Kp.trans {Z : Addr → Prop} {H H1 H2 : Hp} (a : Kp Z H H1) (b : Kp Z H1 H2) : Kp Z H H2 := fun c o z h => b c o z (a c o z h)
theorem Kp.same {Z : Addr → Prop} {H H' : Hp} (s : Same H H') : Kp Z H H' := fun a o _ h => s a o h
theorem Kp.put {Z : Addr → Prop} {H : Hp} {p : Addr} {o : HO} (z : Z p) : Kp Z H (upd H p o) := fun a u nz h => by
  rw [upd_ne (show a ≠ p from fun e => nz (by rw [e]; exact z))]
  exact h
theorem Tk.dK {K : PySem.W.Frag} {H : Hp} {p : Addr} {kvs : List (Key × V)} {o : HO} (e : H p = some (.dK kvs)) : Tk K H (upd H p o) := by
  refine ⟨fun a xs h => ?_, fun a xs ⟨o, h, d⟩ => ⟨o, by rw [upd_ne (fun z => by rw [z, e] at h; cases h)]; exact h, d⟩⟩
  rcases h with (h | ⟨u, h⟩) | h
  · exact .inl (.inl (by rw [upd_ne (fun z => by rw [z, e] at h; cases h)]; exact h))
  · exact .inl (.inr ⟨u, by rw [upd_ne (fun z => by rw [z, e] at h; cases h)]; exact h⟩)
  · exact .inr h
section
variable {K : PySem.W.Frag} {C x dr df ds dl : Addr} {Z : Addr → Prop} {H H' : Hp} {R S : Tb} {F : Fb} {L : List (Str × V)} {b : Nat}
theorem StAt.same (h : StAt K C Z H x dr df ds dl R F S L b) (s : Same H H') : StAt K C Z H' x dr df ds dl R F S L b := by
  obtain ⟨⟨dx, ob⟩, r, rt, f, ft, fz, fp, fn, s', st, l, z, ne, nw, ln⟩ := h
  exact ⟨⟨dx, s _ _ ob⟩, s _ _ r, fun e m => Tk.same s _ _ (rt e m), s _ _ f, fun e m => ⟨s _ _ (ft e m).1, (ft e m).2.1.same s, (ft e m).2.2⟩, fz, fp, fn, s _ _ s', fun e m => Tk.same s _ _ (st e m), s _ _ l, z, ne,
    fun a n => nw a (s.free n), ln⟩
theorem StAt.up {c : Nat} (h : StAt K C Z H x dr df ds dl R F S L b) (l : b ≤ c) : StAt K C Z H x dr df ds dl R F S L c := by
  obtain ⟨ob, r, rt, f, ft, fz, fp, fn, s', st, l', z, ne, nw, ln⟩ := h
  exact ⟨ob, r, rt, f, fun e m => ⟨(ft e m).1, (ft e m).2.1, by have := (ft e m).2.2; omega⟩, fz, fp, fn, s', st, l', z, ne, nw, by omega⟩
/-- the list of a name becomes another one -/
theorem StAt.rows {n : Str} {q : Addr} {rs rs' : List (Addr × List V)} (h : StAt K C Z H x dr df ds dl R F S L b) (hq : valG F n = some (q, rs)) (ro : RowsOk K H rs') (lr : rs'.length ≤ b) :
    StAt K C Z (upd H q (.lst (rrefs rs'))) x dr df ds dl R (putG F n (q, rs')) S L b ∧ Kp Z H (upd H q (.lst (rrefs rs'))) ∧ Tk K H (upd H q (.lst (rrefs rs'))) := by
  obtain ⟨⟨dx, ob⟩, r, rt, f, ft, fz, fp, fn, s', st, l, z, ne, nw, ln⟩ := h
  have mq := valG_mem hq
  have hq1 := (ft _ mq).1
  have zq : Z q := fz _ mq
  have hq2 : H q = some (.lst (rrefs rs)) := hq1
  have tk : Tk K H (upd H q (.lst (rrefs rs'))) := Tk.put hq2
  have no : ∀ (a : Addr) (kvs : List (Key × V)), H a = some (.dK kvs) → a ≠ q := fun a kvs e w => by rw [w, hq2] at e; cases e
  have oth : ∀ e ∈ F, e.1 ≠ n → e.2.1 ≠ q := fun e m en w => by
    have := List.pairwise_iff_getElem.mp fp
    obtain ⟨i, hi, ei⟩ := List.mem_iff_getElem.mp m
    obtain ⟨j, hj, ej⟩ := List.mem_iff_getElem.mp mq
    have hij : i ≠ j := fun z => by
      subst z
      rw [ei] at ej
      rw [ej] at en
      exact en rfl
    rcases Nat.lt_or_gt_of_ne hij with c | c
    · exact this i j hi hj c (by rw [ei, ej]; exact w)
    · exact this j i hj hi c (by rw [ei, ej]; exact w.symm)
  refine ⟨⟨⟨dx, by rw [upd_ne (show x ≠ q from fun w => z.2.2.2.2 (by rw [w]; exact zq))]; exact ob⟩, by rw [upd_ne (no _ _ r)]; exact r, fun e m => tk _ _ (rt e m), ?_, fun e m => ?_, fun e m => ?_, ?_, putG_nodup fn,
    by rw [upd_ne (no _ _ s')]; exact s', fun e m => tk _ _ (st e m), by rw [upd_ne (no _ _ l)]; exact l, z, ne, fun a n => nw a ?_, ?_⟩, Kp.put zq, tk⟩
  · rw [upd_ne (no _ _ f), f]
    unfold kvF
    rw [putG_kv (vv := fun b : Addr × List (Addr × List V) => V.ref b.1) (b := (q, rs')) fn hq rfl]
  · rcases putG_mem m with w | ⟨w, en⟩
    · rw [w]
      exact ⟨upd_same, ro.tk tk, lr⟩
    · refine ⟨?_, (ft e w).2.1.tk tk, (ft e w).2.2⟩
      rw [upd_ne (oth e w en)]
      exact (ft e w).1
  · rcases putG_mem m with w | ⟨w, _⟩
    · rw [w]
      exact zq
    · exact fz e w
  · unfold putG
    rw [any_val, hq, if_pos (show (some (q, rs)).isSome = true from rfl), List.pairwise_map]
    refine fp.imp_of_mem fun {a c} ma mc hac => ?_
    have fx : ∀ e ∈ F, (if e.1 = n then (e.1, q, rs') else e).2.1 = e.2.1 := fun e m => by
      by_cases en : e.1 = n
      · rw [if_pos en]
        have e2 := valG_of fn (k := n) (b := e.2) (by rw [← en]; exact m)
        rw [hq] at e2
        show q = e.2.1
        rw [← Option.some.inj e2]
      · rw [if_neg en]
    rw [fx a ma, fx c mc]
    exact hac
  · by_cases w : a = q
    · rw [w, upd_same] at n
      cases n
    · rw [upd_ne w] at n
      exact n
  · refine ⟨ln.1, ?_, ln.2.2⟩
    unfold putG
    rw [any_val, hq, if_pos (show (some (q, rs)).isSome = true from rfl), List.length_map]
    exact ln.2.1
/-- a new name with an empty list -/
theorem StAt.name {n : Str} {q : Addr} (h : StAt K C Z H x dr df ds dl R F S L b) (hn : valG F n = none) (hq : H q = some (.lst [])) (zq : Z q) (nq : ∀ e ∈ F, e.2.1 ≠ q) :
    StAt K C Z (upd H df (.dK (putK (kvF F) (Sum.inr n) (.ref q)))) x dr df ds dl R (F ++ [(n, q, [])]) S L (b + 1) := by
  obtain ⟨⟨dx, ob⟩, r, rt, f, ft, fz, fp, fn, s', st, l, z, ne, nw, ln⟩ := h
  have tk : Tk K H (upd H df (.dK (putK (kvF F) (Sum.inr n) (.ref q)))) := Tk.dK f
  have qd : q ≠ df := fun w => by rw [w, f] at hq; cases hq
  refine ⟨⟨dx, by rw [upd_ne (show x ≠ df from fun w => z.2.2.2.2 (by rw [w]; exact z.2.1))]; exact ob⟩, by rw [upd_ne ne.1]; exact r, fun e m => tk _ _ (rt e m), ?_, fun e m => ?_, fun e m => ?_, ?_, ?_,
    by rw [upd_ne ne.2.2.2.1.symm]; exact s', fun e m => tk _ _ (st e m), by rw [upd_ne ne.2.2.2.2.1.symm]; exact l, z, ne, fun a n => nw a ?_, ?_⟩
  · rw [upd_same]
    have := kvG_put (fun b : Addr × List (Addr × List V) => V.ref b.1) F n (q, [])
    rw [putG_new _ hn] at this
    exact congrArg (fun t => some (HO.dK t)) this
  · rcases List.mem_append.mp m with m | m
    · have n1 : e.2.1 ≠ df := fun w => by
        have := (ft e m).1
        rw [w, f] at this
        cases this
      refine ⟨by rw [upd_ne n1]; exact (ft e m).1, (ft e m).2.1.tk tk, ?_⟩
      have := (ft e m).2.2
      omega
    · rw [List.mem_singleton.mp m]
      exact ⟨by rw [upd_ne qd]; exact hq, (fun _ w => nomatch w), Nat.zero_le _⟩
  · rcases List.mem_append.mp m with m | m
    · exact fz e m
    · rw [List.mem_singleton.mp m]
      exact zq
  · rw [List.pairwise_append]
    refine ⟨fp, List.pairwise_singleton _ _, fun a ma c mc => ?_⟩
    rw [List.mem_singleton.mp mc]
    exact nq a ma
  · rw [List.map_append, List.nodup_append]
    refine ⟨fn, by simp, fun a ma c mc => ?_⟩
    rw [List.mem_singleton.mp mc]
    rintro rfl
    obtain ⟨e, me, ee⟩ := List.mem_map.mp ma
    exact valG_none hn e me ee
  · by_cases w : a = df
    · rw [w, upd_same] at n
      cases n
    · rw [upd_ne w] at n
      exact n
  · rw [List.length_append]
    show _ ∧ F.length + 1 ≤ _ ∧ _
    omega
end
/-- slices of rows are rows -/
theorem cut_rows (rs : List (Addr × List V)) (lo hi : Option Int) : ∃ ts : List (Addr × List V), cutV (rrefs rs) lo hi = rrefs ts ∧ (∀ t ∈ ts, t ∈ rs) ∧ ts = (rs.drop (HT.sIx rs.length 0 lo)).take (HT.sIx rs.length rs.length hi - HT.sIx rs.length 0 lo) := by
  refine ⟨(rs.drop (HT.sIx rs.length 0 lo)).take (HT.sIx rs.length rs.length hi - HT.sIx rs.length 0 lo), ?_, fun t m => List.mem_of_mem_drop (List.mem_of_mem_take m), rfl⟩
  unfold cutV rrefs
  rw [List.map_take, List.map_drop, List.length_map]
end K1
namespace K1
open PySem PySem.Spec PyProof.Rows L2 Ow Tlz
/-! rows as data -/
def scD : V → PyData
  | .int i => .int i
  | .str z => .str z
  | _ => .none
def rowD (xs : List V) : PyData := .tuple (xs.map scD)
def rwsD (rs : List (Addr × List V)) : PyData := .list (rs.map fun t => rowD t.2)
theorem sc_dp {K : PySem.W.Frag} {H : Hp} : ∀ {xs : List V}, (∀ x ∈ xs, Scal x) → DpAll K H xs (xs.map scD)
  | [], _ => .nil
  | x :: xs, h => by
    have h1 := sc_dp (K := K) (H := H) (xs := xs) fun z m => h z (List.mem_cons_of_mem _ m)
    rcases h x List.mem_cons_self with ⟨i, rfl, _⟩ | ⟨z, rfl, _⟩
    · exact .cons (.int i) h1
    · exact .cons (.str z) h1
theorem rws_dp {K : PySem.W.Frag} {H : Hp} : ∀ {rs : List (Addr × List V)}, RowsOk K H rs → DpAll K H (rrefs rs) (rs.map fun t => rowD t.2)
  | [], _ => .nil
  | t :: rs, h => .cons (.tup (h t List.mem_cons_self).1 (sc_dp (h t List.mem_cons_self).2.1)) (rws_dp (rs := rs) fun u m => h u (List.mem_cons_of_mem _ m))
theorem layAll : ∀ {xs : List PyData}, (∀ x ∈ xs, x.canLay0 = true) → PyData.canLayAll0 xs = true
  | [], _ => by simp [PyData.canLayAll0]
  | x :: xs, h => by
    rw [PyData.canLayAll0, h x List.mem_cons_self, layAll fun y m => h y (List.mem_cons_of_mem _ m)]
    rfl
theorem depthAll_le : ∀ {xs : List PyData} {n : Nat}, (∀ x ∈ xs, x.depth ≤ n) → PyData.depthAll xs ≤ n
  | [], n, _ => by simp [PyData.depthAll]
  | x :: xs, n, h => by
    rw [PyData.depthAll]
    exact Nat.max_le.mpr ⟨h x List.mem_cons_self, depthAll_le fun y m => h y (List.mem_cons_of_mem _ m)⟩
theorem sc_lay {v : V} (h : Scal v) : (scD v).canLay0 = true ∧ (scD v).depth = 0 := by
  rcases h with ⟨i, rfl, _⟩ | ⟨z, rfl, p, _⟩
  · simp [scD, PyData.canLay0, PyData.depth]
  · exact ⟨p.ok, by simp [scD, PyData.depth]⟩
theorem row_lay {xs : List V} (h : ∀ x ∈ xs, Scal x) : (rowD xs).canLay0 = true ∧ (rowD xs).depth ≤ 1 := by
  unfold rowD
  rw [PyData.canLay0, PyData.depth]
  refine ⟨layAll fun x mx => ?_, ?_⟩
  · obtain ⟨v, mv, rfl⟩ := List.mem_map.mp mx
    exact (sc_lay (h v mv)).1
  · have : PyData.depthAll (xs.map scD) ≤ 0 := depthAll_le fun x mx => by
      obtain ⟨v, mv, rfl⟩ := List.mem_map.mp mx
      rw [(sc_lay (h v mv)).2]
      exact Nat.le_refl _
    omega
theorem rws_shaped {rs : List (Addr × List V)} (h : ∀ t ∈ rs, ∀ x ∈ t.2, Scal x) : SeqAt.shaped (rwsD rs) = true := by
  unfold SeqAt.shaped rwsD
  rw [PyData.canLay0, PyData.depth]
  have l : PyData.canLayAll0 (rs.map fun t => rowD t.2) = true := layAll fun x mx => by
    obtain ⟨t, mt, rfl⟩ := List.mem_map.mp mx
    exact (row_lay (h t mt)).1
  have e : PyData.depthAll (rs.map fun t => rowD t.2) ≤ 1 := depthAll_le fun x mx => by
    obtain ⟨t, mt, rfl⟩ := List.mem_map.mp mx
    exact (row_lay (h t mt)).2
  rw [l, decide_eq_true (by omega)]
  rfl
theorem row_shaped {xs : List V} (h : ∀ x ∈ xs, Scal x) : SeqAt.shaped (rowD xs) = true := by
  have := row_lay h
  unfold SeqAt.shaped
  rw [this.1, decide_eq_true (by omega)]
  rfl
theorem eqv_sc {x y : V} (sx : Scal x) (sy : Scal y) : PyData.eqv (scD x) (scD y) = decide (x = y) := by
  rcases sx with ⟨i, rfl, _⟩ | ⟨x, rfl, _⟩ <;> rcases sy with ⟨j, rfl, _⟩ | ⟨y, rfl, _⟩
  · simp only [scD, eqv_int]
    by_cases h : i = j
    · subst h; simp
    · rw [decide_eq_false (fun z => h (V.int.inj z))]; simpa using h
  · rw [decide_eq_false (fun z => by cases z)]
    simp only [scD]
    rw [PyData.eqv]
    all_goals (intros; first | contradiction | (rename_i h; cases h))
  · rw [decide_eq_false (fun z => by cases z)]
    simp only [scD]
    rw [PyData.eqv]
    all_goals (intros; first | contradiction | (rename_i h; cases h))
  · simp only [scD, eqv_str]
    by_cases h : x = y
    · subst h; simp
    · rw [decide_eq_false (fun z => h (V.str.inj z))]; simpa using h
theorem eqv_scs : ∀ {xs ys : List V}, (∀ x ∈ xs, Scal x) → (∀ y ∈ ys, Scal y) → PyData.eqvAll (xs.map scD) (ys.map scD) = decide (xs = ys)
  | [], [], _, _ => by rw [List.map_nil, eqv_nil]; rfl
  | [], y :: ys, _, _ => by rw [List.map_nil, List.map_cons, eqv_nc, decide_eq_false (fun z => by cases z)]
  | x :: xs, [], _, _ => by rw [List.map_nil, List.map_cons, eqv_cn, decide_eq_false (fun z => by cases z)]
  | x :: xs, y :: ys, hx, hy => by
    rw [List.map_cons, List.map_cons, eqv_cons, eqv_sc (hx x List.mem_cons_self) (hy y List.mem_cons_self), eqv_scs (fun v m => hx v (List.mem_cons_of_mem _ m)) fun v m => hy v (List.mem_cons_of_mem _ m)]
    by_cases h : x = y
    · subst h
      by_cases g : xs = ys
      · subst g; simp
      · rw [decide_eq_false g, decide_eq_false (fun z => g (List.cons.inj z).2)]; simp
    · rw [decide_eq_false h, decide_eq_false (fun z => h (List.cons.inj z).1)]; rfl
theorem eqv_row {xs ys : List V} (hx : ∀ x ∈ xs, Scal x) (hy : ∀ y ∈ ys, Scal y) : PyData.eqv (rowD xs) (rowD ys) = decide (xs = ys) := by
  unfold rowD
  rw [eqv_tup]
  exact eqv_scs hx hy
theorem eqv_lst (xs ys : List PyData) : PyData.eqv (.list xs) (.list ys) = PyData.eqvAll xs ys := by rw [PyData.eqv]
/-- a fact is put into the table -/
def PutF (F : Fb) (n : Str) (r : Addr) (row : List V) (F' : Fb) : Prop := ∃ (q : Addr) (rs : List (Addr × List V)) (F1 : Fb) (k : Nat),
  ((F1 = F ∧ valG F n = some (q, rs)) ∨ (valG F n = none ∧ rs = [] ∧ F1 = F ++ [(n, q, [])])) ∧ k ≤ rs.length ∧ (Srt rs → Place rs row k) ∧
  ((F' = F1 ∧ ∃ t, rs[k]? = some t ∧ t.2 = row) ∨ (F' = putG F1 n (q, rs.take k ++ [(r, row)] ++ rs.drop k) ∧ ∀ t, rs[k]? = some t → t.2 ≠ row))
def spPutFact (K : PySem.W.Frag) (C : Addr) : Sp := fun vs H Q _ => ∃ (x r : Addr) (n : Str) (row : List V) (dr df ds dl : Addr) (Z : Addr → Prop) (R S : Tb) (F : Fb) (L : List (Str × V)) (b : Nat), vs = [.ref x, .str n, .ref r] ∧
  StAt K C Z H x dr df ds dl R F S L b ∧ b ≤ 900 ∧ SqT K H r row ∧ (∀ v ∈ row, Scal v) ∧ row.length ≤ 10 ∧
  ∀ F' H', PutF F n r row F' → StAt K C Z H' x dr df ds dl R F' S L (b + 1) → Kp Z H H' → Tk K H H' → Q .non H'
abbrev sput_fact : Stmt := topS 7
abbrev Nput_fact : List Str := ["state", "name", "row", "rows", "at"]
theorem scput_fact : FnScope Nput_fact ["state", "name", "row"] (defScope sput_fact) := ⟨rfl, rfl, rfl, by decide +kernel, rfl, by decide +kernel, by decide +kernel⟩
theorem kvF_val (F : Fb) (n : Str) : valV (kvF F) (Sum.inr n) = (valG F n).map fun b => V.ref b.1 := kvG_val _ _ _
section
variable {P : Program} {w : World} {K : PySem.W.Frag} {mg : Str → Option Value} {base : Heap} {C : Addr}
theorem ok_putfact {f : Addr} {fd : FuncData} (F0 : Fun K "put_fact" "put_fact" sput_fact f fd) (T : Bl mg) (X : Txt K mg C)
    (Dplace_of : Kn P w K mg base 3 "place_of" ["rows", "row"] (spPlace K)) :
    FnOk P w K mg base CX0 4 f fd ["state", "name", "row"] (spPutFact K C) := by
  refine F0.ok scput_fact (fun vs H Q E h => ?_) (fun cdv A outer s H vs Q E hr h => ?_)
  · obtain ⟨x, r, n, row, dr, df, ds, dl, Z, R, S, F, L, b, rfl, _⟩ := h
    rfl
  · obtain ⟨x, r, n, row, dr, df, ds, dl, Z, R, S, F, L, b, rfl, st, lb, hrow, srow, lrow, q⟩ := h
    refine ⟨_, (pss_mid (ps_set (i := 3) scput_fact.nd rfl (.inl rfl) (pe_dsetd (pe_fld (pv 0) rfl) (pv 1) (pe_lst pa_nil) ⟨rfl, rfl, rfl, rfl⟩))
      (pss_cons (ps_set (i := 4) scput_fact.nd rfl (.inl rfl) (pe_kn Dplace_of hr (pa_cons (pv 3) (pa_cons (pv 2) pa_nil))))
      (pss_one (ps_if (pt_cmpR (op_neD (hu64 hr)) (pe_slice sl_list (pv 3) (po_some (pv 4)) (po_some (pe_op op_add (pv 4) pe_int))) (pe_lst (pa_cons (pv 2) pa_nil)) (nomark _))
        (pss_one (ps_expr (pe_bm PySem.F.plainAttrs_list PySem.F.slot_list_insert PySem.F.type_list_insert mt_insert (pv 3) (pa_cons (pv 4) (pa_cons (pv 2) pa_nil))))) pss_nil)))), ?_⟩
    refine ⟨fun σ H1 => ∃ (l : Addr) (rs : List (Addr × List V)) (F1 : Fb), σ = [some (.ref x), some (.str n), some (.ref r), some (.ref l), none] ∧ StAt K C Z H1 x dr df ds dl R F1 S L (b + 1) ∧ valG F1 n = some (l, rs) ∧
        ((F1 = F ∧ valG F n = some (l, rs)) ∨ (valG F n = none ∧ rs = [] ∧ F1 = F ++ [(n, l, [])])) ∧ rs.length ≤ b ∧ Kp Z H H1 ∧ Tk K H H1, ?_, ?_⟩
    · obtain ⟨dx, ob⟩ := st.ob
      refine ⟨_, rfl, x, C, dx, _, _, rfl, ob, X.cl, X.nF, flds_f _ _ _ _, df, rfl, .inl ⟨_, .inl st.f⟩, _, rfl, sz 0, fun o no => ?_⟩
      have s1 := Same.new (o := .lst []) no
      have st1 := st.same s1
      have zo := st.nw o no
      refine ⟨kvF F, Sum.inr n, st1.f, rfl, ?_, fun v hv => ?_, fun hv => ?_⟩
      · unfold kvF kvG
        rw [List.length_map]
        exact small (m := 1000) (by have := st.ln; omega) (by decide)
      · rw [kvF_val] at hv
        cases e : valG F n with
        | none => rw [e] at hv; cases hv
        | some a =>
          rw [e] at hv
          have ev : V.ref a.1 = v := Option.some.inj hv
          subst ev
          have m := valG_mem e
          exact ⟨a.1, a.2, F, rfl, st1.up (by omega), e, .inl ⟨rfl, rfl⟩, (st.ft _ m).2.2, Kp.same s1, Tk.same s1⟩
      · rw [kvF_val] at hv
        have e : valG F n = none := by
          cases e : valG F n with
          | none => rfl
          | some a => rw [e] at hv; cases hv
        have nq : ∀ e ∈ F, e.2.1 ≠ o := fun e m w => by
          have := (st.ft e m).1
          rw [w, no] at this
          cases this
        refine ⟨o, [], F ++ [(n, o, [])], rfl, st1.name e upd_same zo nq, ?_, .inr ⟨e, rfl, rfl⟩, Nat.zero_le _, (Kp.same s1).trans (Kp.put st.z.2.1), (Tk.same s1).trans (Tk.dK st1.f)⟩
        refine valG_of ?_ (List.mem_append_right _ (List.mem_singleton.mpr rfl))
        exact (st1.name e upd_same zo nq).fn
    · rintro σ H1 ⟨l, rs, F1, rfl, st1, ev, how, lrs, kp1, tk1⟩
      have m1 := valG_mem ev
      obtain ⟨hl, ro, _⟩ := st1.ft _ m1
      have hl' : H1 l = some (.lst (rrefs rs)) := hl
      have ro' : RowsOk K H1 rs := ro
      have hrow1 := tk1 _ _ hrow
      refine ⟨_, rfl, _, rfl, l, r, rs, row, rfl, SqL.of hl', ro', hrow1, srow, lrow, by omega, fun k H2 lk pl s2 => ?_⟩
      have st2 := st1.same s2
      have hl2 := s2 _ _ hl'
      obtain ⟨ts, ec, mts, ets⟩ := cut_rows rs (some (k : Int)) (some ((k : Int) + 1))
      have i1 : HT.sIx rs.length 0 (some (k : Int)) = k := by rw [HT.sIx_nat]; omega
      have i2 : HT.sIx rs.length rs.length (some ((k : Int) + 1)) = min (k + 1) rs.length := by
        have := HT.sIx_nat rs.length rs.length (k + 1)
        rw [← this]
        rfl
      have one : ts = (rs[k]?).toList := by
        rw [ets, i1, i2]
        by_cases hk : k < rs.length
        · rw [List.getElem?_eq_getElem hk, List.drop_eq_getElem_cons hk]
          have : min (k + 1) rs.length - k = 1 := by omega
          rw [this]
          rfl
        · rw [List.getElem?_eq_none (by omega), List.drop_of_length_le (by omega), List.take_nil]
          rfl
      refine ⟨_, rfl, _, rfl, (k : Int), rfl, _, rfl, (k : Int), 1, rfl, rfl, (k : Int) + 1, rfl, l, rrefs rs, rfl, SqL.of hl2, fun p np => ?_⟩
      rw [ec]
      have s3 := Same.new (o := .lst (rrefs ts)) np
      have e3 := upd_same (H := H2) (a := p) (o := .lst (rrefs ts))
      generalize (upd H2 p (.lst (rrefs ts))) = H3 at *
      refine ⟨_, rfl, sz 1, fun u nu => ?_⟩
      have s4 := Same.new (o := .lst [V.ref r]) nu
      have e4 := upd_same (H := H3) (a := u) (o := .lst [V.ref r])
      generalize (upd H3 u (.lst [V.ref r])) = H4 at *
      have s24 := s3.trans s4
      have st4 := st2.same s24
      have hl4 := s24 _ _ hl2
      have ro4 := (ro'.same s2).same s24
      have hrow4 := Tk.same (s2.trans s24) _ _ hrow1
      have rts : RowsOk K H4 ts := fun t m => ro4 t (mts t m)
      have kp4 : Kp Z H H4 := kp1.trans (Kp.same (s2.trans s24))
      have tk4 : Tk K H H4 := tk1.trans (Tk.same (s2.trans s24))
      refine ⟨rwsD ts, .list [rowD row], .lst (SqL.of (s4 _ _ e3)) (rws_dp rts), .lst (SqL.of e4) (.cons (.tup hrow4 (sc_dp srow)) .nil), rws_shaped fun t m => (rts t m).2.1, ?_, _, rfl, ?_⟩
      · exact rws_shaped (rs := [(r, row)]) fun t m => by
          rw [List.mem_singleton.mp m]
          exact srow
      have eq1 : PyData.eqv (rwsD ts) (.list [rowD row]) = decide (∃ t, rs[k]? = some t ∧ t.2 = row) := by
        unfold rwsD
        rw [one, eqv_lst]
        cases e : rs[k]? with
        | none =>
          rw [decide_eq_false (fun ⟨t, h, _⟩ => by cases h)]
          show PyData.eqvAll [] _ = _
          rw [eqv_nc]
        | some t =>
          have mt := List.mem_of_getElem? e
          show PyData.eqvAll [rowD t.2] [rowD row] = _
          rw [eqv_cons, eqv_nil, Bool.and_true, eqv_row (ro' t mt).2.1 srow]
          refine decide_eq_decide.mpr ⟨fun h => ⟨t, rfl, h⟩, fun ⟨u, hu, h⟩ => ?_⟩
          rw [Option.some.inj hu]
          exact h
      rw [eq1]
      refine ite2 (fun e => ?_) (fun e => ?_)
      · have no1 : ∀ t, rs[k]? = some t → t.2 ≠ row := fun t ht hr => by
          rw [decide_eq_true ⟨t, ht, hr⟩] at e
          cases e
        have hr3 := st4.rows (rs' := rs.take k ++ [(r, row)] ++ rs.drop k) ev (fun t m => by
          rcases List.mem_append.mp m with m | m
          · rcases List.mem_append.mp m with m | m
            · exact ro4 t (List.mem_of_mem_take m)
            · rw [List.mem_singleton.mp m]
              exact ⟨hrow4, srow, lrow⟩
          · exact ro4 t (List.mem_of_mem_drop m)) (by
            rw [List.length_append, List.length_append, List.length_take, List.length_drop]
            show min k rs.length + 1 + (rs.length - k) ≤ b + 1
            omega)
        have er : (rrefs rs).take (k : Int).toNat ++ [V.ref r] ++ (rrefs rs).drop (k : Int).toNat = rrefs (rs.take k ++ [(r, row)] ++ rs.drop k) := by
          unfold rrefs
          rw [List.map_append, List.map_append, List.map_take, List.map_drop]
          rfl
        refine ⟨_, rfl, .inl ⟨rfl, _, .inl (.inl hl4)⟩, _, rfl, _, rfl, l, rrefs rs, (k : Int), .ref r, rfl, rfl, hl4, ?_, by omega, by omega, ?_⟩
        · rw [rrefs_len]
          exact small (m := 1000) (by omega) (by decide)
        · rw [er]
          exact q _ _ ⟨l, rs, F1, k, how, lk, pl, .inr ⟨rfl, no1⟩⟩ hr3.1 (kp4.trans hr3.2.1) (tk4.trans hr3.2.2)
      · have yes : ∃ t, rs[k]? = some t ∧ t.2 = row := by
          by_cases z : ∃ t, rs[k]? = some t ∧ t.2 = row
          · exact z
          · rw [decide_eq_false z] at e
            exact absurd rfl e
        exact q _ _ ⟨l, rs, F1, k, how, lk, pl, .inl ⟨rfl, yes⟩⟩ st4 kp4 tk4
end
end K1
namespace K1
open PySem PySem.Spec PyProof.Rows L2 Ow Tlz
/-! items -/
inductive It where
  | rel (n : Str) (c : List V)
  | fact (n : Str) (r : Addr) (row : List V)
  | str (n : Str) (c : List V)
  | lay (n : Str) (v : V)
def ItAt (K : PySem.W.Frag) (H : Hp) (a : Addr) : It → Prop
  | .rel n c => SqT K H a (.str "relation" :: .str n :: c)
  | .fact n r row => SqT K H a [.str "fact", .str n, .ref r] ∧ SqT K H r row ∧ (∀ v ∈ row, Scal v) ∧ row.length ≤ 10
  | .str n c => SqT K H a (.str "structure" :: .str n :: c)
  | .lay n v => SqT K H a [.str "layout", .str n, v]
theorem ItAt.tk {K : PySem.W.Frag} {H H' : Hp} {a : Addr} {i : It} (t : Tk K H H') (h : ItAt K H a i) : ItAt K H' a i := by
  cases i with
  | rel n c => exact t _ _ h
  | fact n r row => exact ⟨t _ _ h.1, t _ _ h.2.1, h.2.2⟩
  | str n c => exact t _ _ h
  | lay n v => exact t _ _ h
/-- an item is put into the tables -/
def PutI (R : Tb) (F : Fb) (S : Tb) (L : List (Str × V)) (i : It) (R' : Tb) (F' : Fb) (S' : Tb) (L' : List (Str × V)) : Prop := match i with
  | .rel n c => (∃ q, R' = putG R n (q, c)) ∧ (((valG F n).isSome = true ∧ F' = F) ∨ ∃ q, valG F n = none ∧ F' = F ++ [(n, q, [])]) ∧ S' = S ∧ L' = L
  | .fact n r row => PutF F n r row F' ∧ R' = R ∧ S' = S ∧ L' = L
  | .str n c => (∃ q, S' = putG S n (q, c)) ∧ R' = R ∧ F' = F ∧ L' = L
  | .lay n v => L' = putG L n v ∧ R' = R ∧ F' = F ∧ S' = S
def spPutItem (K : PySem.W.Frag) (C : Addr) : Sp := fun vs H Q _ => ∃ (x a : Addr) (i : It) (dr df ds dl : Addr) (Z : Addr → Prop) (R S : Tb) (F : Fb) (L : List (Str × V)) (b : Nat), vs = [.ref x, .ref a] ∧
  StAt K C Z H x dr df ds dl R F S L b ∧ b ≤ 900 ∧ ItAt K H a i ∧
  ∀ R' F' S' L' H', PutI R F S L i R' F' S' L' → StAt K C Z H' x dr df ds dl R' F' S' L' (b + 1) → Kp Z H H' → Tk K H H' → Q .non H'
abbrev sput_item : Stmt := topS 8
abbrev Nput_item : List Str := ["state", "item", "word", "name"]
theorem scput_item : FnScope Nput_item ["state", "item"] (defScope sput_item) := ⟨rfl, rfl, rfl, by decide +kernel, rfl, by decide +kernel, by decide +kernel⟩
section
variable {K : PySem.W.Frag} {C x dr df ds dl : Addr} {Z : Addr → Prop} {H H' : Hp} {R S : Tb} {F : Fb} {L : List (Str × V)} {b : Nat}
theorem none_upd {d : Addr} {o : HO} (nw : ∀ a, H a = none → Z a) : ∀ a, (upd H d o) a = none → Z a := fun a n => by
  by_cases w : a = d
  · rw [w, upd_same] at n
    cases n
  · rw [upd_ne w] at n
    exact nw a n
theorem StAt.rel {n : Str} {q : Addr} {c : List V} (h : StAt K C Z H x dr df ds dl R F S L b) (hq : SqT K H q c) :
    StAt K C Z (upd H dr (.dK (putK (kvR R) (Sum.inr n) (.ref q)))) x dr df ds dl (putG R n (q, c)) F S L (b + 1) := by
  obtain ⟨⟨dx, ob⟩, r, rt, f, ft, fz, fp, fn, s', st, l, z, ne, nw, ln⟩ := h
  have tk : Tk K H (upd H dr (.dK (putK (kvR R) (Sum.inr n) (.ref q)))) := Tk.dK r
  refine ⟨⟨dx, by rw [upd_ne (show x ≠ dr from fun w => z.2.2.2.2 (by rw [w]; exact z.1))]; exact ob⟩, ?_, fun e m => ?_, by rw [upd_ne ne.1.symm]; exact f, fun e m => ?_, fz, fp, fn, by rw [upd_ne ne.2.1.symm]; exact s', fun e m => tk _ _ (st e m),
    by rw [upd_ne ne.2.2.1.symm]; exact l, z, ne, none_upd nw, ?_⟩
  · rw [upd_same]
    have := kvG_put (fun b : Addr × List V => V.ref b.1) R n (q, c)
    exact congrArg (fun t => some (HO.dK t)) this
  · rcases putG_mem m with w | ⟨w, _⟩
    · rw [w]; exact tk _ _ hq
    · exact tk _ _ (rt e w)
  · have n1 : e.2.1 ≠ dr := fun w => by
      have := (ft e m).1
      rw [w, r] at this
      cases this
    exact ⟨by rw [upd_ne n1]; exact (ft e m).1, (ft e m).2.1.tk tk, by have := (ft e m).2.2; omega⟩
  · have := putG_len R n (q, c)
    omega
theorem StAt.stru {n : Str} {q : Addr} {c : List V} (h : StAt K C Z H x dr df ds dl R F S L b) (hq : SqT K H q c) :
    StAt K C Z (upd H ds (.dK (putK (kvR S) (Sum.inr n) (.ref q)))) x dr df ds dl R F (putG S n (q, c)) L (b + 1) := by
  obtain ⟨⟨dx, ob⟩, r, rt, f, ft, fz, fp, fn, s', st, l, z, ne, nw, ln⟩ := h
  have tk : Tk K H (upd H ds (.dK (putK (kvR S) (Sum.inr n) (.ref q)))) := Tk.dK s'
  refine ⟨⟨dx, by rw [upd_ne (show x ≠ ds from fun w => z.2.2.2.2 (by rw [w]; exact z.2.2.1))]; exact ob⟩, by rw [upd_ne ne.2.1]; exact r, fun e m => tk _ _ (rt e m), by rw [upd_ne ne.2.2.2.1]; exact f, fun e m => ?_, fz, fp, fn, ?_, fun e m => ?_,
    by rw [upd_ne ne.2.2.2.2.2.symm]; exact l, z, ne, none_upd nw, ?_⟩
  · have n1 : e.2.1 ≠ ds := fun w => by
      have := (ft e m).1
      rw [w, s'] at this
      cases this
    exact ⟨by rw [upd_ne n1]; exact (ft e m).1, (ft e m).2.1.tk tk, by have := (ft e m).2.2; omega⟩
  · rw [upd_same]
    have := kvG_put (fun b : Addr × List V => V.ref b.1) S n (q, c)
    exact congrArg (fun t => some (HO.dK t)) this
  · rcases putG_mem m with w | ⟨w, _⟩
    · rw [w]; exact tk _ _ hq
    · exact tk _ _ (st e w)
  · have := putG_len S n (q, c)
    omega
theorem StAt.lay {n : Str} {v : V} (h : StAt K C Z H x dr df ds dl R F S L b) :
    StAt K C Z (upd H dl (.dK (putK (kvG id L) (Sum.inr n) v))) x dr df ds dl R F S (putG L n v) (b + 1) := by
  obtain ⟨⟨dx, ob⟩, r, rt, f, ft, fz, fp, fn, s', st, l, z, ne, nw, ln⟩ := h
  have tk : Tk K H (upd H dl (.dK (putK (kvG id L) (Sum.inr n) v))) := Tk.dK l
  refine ⟨⟨dx, by rw [upd_ne (show x ≠ dl from fun w => z.2.2.2.2 (by rw [w]; exact z.2.2.2.1))]; exact ob⟩, by rw [upd_ne ne.2.2.1]; exact r, fun e m => tk _ _ (rt e m), by rw [upd_ne ne.2.2.2.2.1]; exact f, fun e m => ?_, fz, fp, fn,
    by rw [upd_ne ne.2.2.2.2.2]; exact s', fun e m => tk _ _ (st e m), ?_, z, ne, none_upd nw, ?_⟩
  · have n1 : e.2.1 ≠ dl := fun w => by
      have := (ft e m).1
      rw [w, l] at this
      cases this
    exact ⟨by rw [upd_ne n1]; exact (ft e m).1, (ft e m).2.1.tk tk, by have := (ft e m).2.2; omega⟩
  · rw [upd_same]
    exact congrArg (fun t => some (HO.dK t)) (kvG_put id L n v)
  · have := putG_len L n v
    omega
end
theorem kvG_len {β : Type} (vv : β → V) (l : List (Str × β)) : (kvG vv l).length = l.length := by unfold kvG; rw [List.length_map]
theorem cut2 (u v : V) (c : List V) : cutV (u :: v :: c) (some 2) none = c ∧ ¬ (HT.sIx (u :: v :: c).length 0 (some 2) = 0 ∧ HT.sIx (u :: v :: c).length (u :: v :: c).length none = (u :: v :: c).length) := by
  have i1 : HT.sIx (u :: v :: c).length 0 (some 2) = 2 := by
    have := HT.sIx_nat (u :: v :: c).length 0 2
    rw [show ((2 : Nat) : Int) = 2 from rfl] at this
    rw [this, List.length_cons, List.length_cons]
    omega
  refine ⟨?_, fun z => by rw [i1] at z; omega⟩
  unfold cutV
  rw [i1, HT.sIx_none]
  show c.take ((c.length + 1 + 1) - 2) = c
  exact List.take_of_length_le (by omega)
section
variable {P : Program} {w : World} {K : PySem.W.Frag} {mg : Str → Option Value} {base : Heap} {C : Addr}
theorem ok_putitem {f : Addr} {fd : FuncData} (F0 : Fun K "put_item" "put_item" sput_item f fd) (T : Bl mg) (X : Txt K mg C)
    (Dput_fact : Kn P w K mg base 4 "put_fact" ["state", "name", "row"] (spPutFact K C)) :
    FnOk P w K mg base CX0 5 f fd ["state", "item"] (spPutItem K C) := by
  refine F0.ok scput_item (fun vs H Q E h => ?_) (fun cdv A outer s H vs Q E hr h => ?_)
  · obtain ⟨x, a, i, dr, df, ds, dl, Z, R, S, F, L, b, rfl, _⟩ := h
    rfl
  · obtain ⟨x, a, i, dr, df, ds, dl, Z, R, S, F, L, b, rfl, st, lb, hi, q⟩ := h
    have hu := hu_of hr
    refine ⟨_, (pss_cons (ps_set (i := 2) scput_item.nd rfl (.inl rfl) (pe_ix ix_tup (pv 1) pe_int (fun _ _ => rfl)))
      (pss_cons (ps_set (i := 3) scput_item.nd rfl (.inl rfl) (pe_ix ix_tup (pv 1) pe_int (fun _ _ => rfl)))
      (pss_one (ps_if (pt_cmpR op_eq (pv 2) pe_str (nomark _)) (pss_cons (ps_dput hu (pe_fld (pv 0) rfl) (pv 3) (pe_slice sl_tupA (pv 1) (po_some pe_int) po_none) rfl)
      (pss_one (ps_expr (pe_dsetd (pe_fld (pv 0) rfl) (pv 3) (pe_lst pa_nil) ⟨rfl, rfl, rfl, rfl⟩)))) (pss_one (ps_if (pt_cmpR op_eq (pv 2) pe_str (nomark _)) (pss_one (ps_expr (pe_kn Dput_fact hr (pa_cons (pv 0) (pa_cons (pv 3) (pa_cons (pe_ix ix_tup (pv 1) pe_int (fun _ _ => rfl)) pa_nil)))))) (pss_one (ps_if (pt_cmpR op_eq (pv 2) pe_str (nomark _)) (pss_one (ps_dput hu (pe_fld (pv 0) rfl) (pv 3) (pe_slice sl_tupA (pv 1) (po_some pe_int) po_none) rfl)) (pss_one (ps_dput hu (pe_fld (pv 0) rfl) (pv 3) (pe_ix ix_tup (pv 1) pe_int (fun _ _ => rfl)) rfl)))))))))), ?_⟩
    have big : ∀ {β : Type} (vv : β → V) (l : List (Str × β)), l.length ≤ b → (kvG vv l).length < sizeLine := fun vv l hl => by
      rw [kvG_len]
      exact small (m := 1000) (by omega) (by decide)
    have n1 : ∀ {u v : Str}, u ≠ v → ¬ decide (V.str u = V.str v) = true := fun h e => h (V.str.inj (of_decide_eq_true e))
    cases i with
    | rel n c =>
      have ht : SqT K H a (.str "relation" :: .str n :: c) := hi
      obtain ⟨dx, ob⟩ := st.ob
      refine ⟨_, rfl, a, _, 0, _, rfl, rfl, ht, at_of (j := 0) rfl rfl, _, rfl, a, _, 1, _, rfl, rfl, ht, at_of (j := 1) rfl rfl, ?_⟩
      refine ⟨_, rfl, rfl, _, rfl, ite2 (fun _ => ?_) (fun e => absurd (decide_eq_true rfl) e)⟩
      refine ⟨_, rfl, 2, rfl, a, _, rfl, ht, fun w => absurd w (cut2 _ _ c).2, fun _ p np => ?_⟩
      rw [(cut2 _ _ c).1]
      have s1 := Same.new (o := .tup c) np
      have e1 := upd_same (H := H) (a := p) (o := .tup c)
      generalize (upd H p (.tup c)) = H1 at *
      have st1 := st.same s1
      have st2 := st1.rel (n := n) (SqT.of e1)
      have k1 : Kp Z H1 (upd H1 dr (.dK (putK (kvR R) (Sum.inr n) (.ref p)))) := Kp.put st.z.1
      have t1 : Tk K H1 (upd H1 dr (.dK (putK (kvR R) (Sum.inr n) (.ref p)))) := Tk.dK st1.r
      have dp := DPut.k (k := Sum.inr n) (v := .ref p) st1.r (big _ R st.ln.1)
      refine ⟨_, rfl, x, C, dx, _, _, rfl, s1 _ _ ob, X.cl, X.nR, flds_r _ _ _ _, _, rfl, dr, _, rfl, dp, ?_⟩
      have k2 : Kp Z H _ := (Kp.same s1).trans k1
      have t2 : Tk K H _ := (Tk.same s1).trans t1
      generalize (upd H1 dr (.dK (putK (kvR R) (Sum.inr n) (.ref p)))) = H2 at *
      obtain ⟨dx2, ob2⟩ := st2.ob
      refine ⟨_, rfl, x, C, dx2, _, _, rfl, ob2, X.cl, X.nF, flds_f _ _ _ _, df, rfl, .inl ⟨_, .inl st2.f⟩, _, rfl, sz 0, fun o no => ?_⟩
      have s3 := Same.new (o := .lst []) no
      have st3 := st2.same s3
      have zo := st2.nw o no
      have rr : PutI R F S L (.rel n c) (putG R n (p, c)) F S L ∨ valG F n = none := by
        cases e : valG F n with
        | none => exact .inr rfl
        | some v => exact .inl ⟨⟨p, rfl⟩, .inl ⟨by rw [e]; rfl, rfl⟩, rfl, rfl⟩
      refine ⟨kvF F, Sum.inr n, st3.f, rfl, big _ F st.ln.2.1, fun v hv => ?_, fun hv => ?_⟩
      · rcases rr with rr | rr
        · exact q _ _ _ _ _ rr st3 (k2.trans (Kp.same s3)) (t2.trans (Tk.same s3))
        · rw [kvF_val, rr] at hv
          cases hv
      · rw [kvF_val] at hv
        have e : valG F n = none := by
          cases e : valG F n with
          | none => rfl
          | some a => rw [e] at hv; cases hv
        have nq : ∀ e ∈ F, e.2.1 ≠ o := fun e m w => by
          have := (st2.ft e m).1
          rw [w, no] at this
          cases this
        have st4 := st3.name e upd_same zo nq
        obtain ⟨ob, r, rt, f, ft, fz, fp, fn, s', st', l', z, ne, nw, ln⟩ := st4
        have l2 : (putG R n (p, c)).length ≤ b + 1 := by have := putG_len R n (p, c); have := st.ln; omega
        have l3 : (F ++ [(n, o, ([] : List (Addr × List V)))]).length ≤ b + 1 := by rw [List.length_append]; have := st.ln; show F.length + 1 ≤ _; omega
        have l4 := st.ln
        refine q _ _ _ _ _ ⟨⟨p, rfl⟩, .inr ⟨o, e, rfl⟩, rfl, rfl⟩ ⟨ob, r, rt, f, fun u m => ⟨(ft u m).1, (ft u m).2.1, ?_⟩, fz, fp, fn, s', st', l', z, ne, nw, l2, l3, by omega, by omega⟩
          ((k2.trans (Kp.same s3)).trans (Kp.put st.z.2.1)) ((t2.trans (Tk.same s3)).trans (Tk.dK st3.f))
        rcases List.mem_append.mp m with m | m
        · have := (st.ft u m).2.2
          omega
        · rw [List.mem_singleton.mp m]
          exact Nat.zero_le _
    | fact n r row =>
      obtain ⟨ht, hrow, srow, lrow⟩ := hi
      refine ⟨_, rfl, a, _, 0, _, rfl, rfl, ht, at_of (j := 0) rfl rfl, _, rfl, a, _, 1, _, rfl, rfl, ht, at_of (j := 1) rfl rfl, ?_⟩
      refine ⟨_, rfl, rfl, _, rfl, ite2 (fun e => absurd e (n1 (by decide +kernel))) (fun _ => ?_)⟩
      refine ⟨_, rfl, rfl, _, rfl, ite2 (fun _ => ?_) (fun e => absurd (decide_eq_true rfl) e)⟩
      refine ⟨_, rfl, _, rfl, _, rfl, a, _, 2, _, rfl, rfl, ht, at_of (j := 2) rfl rfl, x, r, n, row, dr, df, ds, dl, Z, R, S, F, L, b, rfl, st, lb, hrow, srow, lrow, fun F' H' pf st' kp tk => ?_⟩
      exact q _ _ _ _ _ ⟨pf, rfl, rfl, rfl⟩ st' kp tk
    | str n c =>
      have ht : SqT K H a (.str "structure" :: .str n :: c) := hi
      obtain ⟨dx, ob⟩ := st.ob
      refine ⟨_, rfl, a, _, 0, _, rfl, rfl, ht, at_of (j := 0) rfl rfl, _, rfl, a, _, 1, _, rfl, rfl, ht, at_of (j := 1) rfl rfl, ?_⟩
      refine ⟨_, rfl, rfl, _, rfl, ite2 (fun e => absurd e (n1 (by decide +kernel))) (fun _ => ?_)⟩
      refine ⟨_, rfl, rfl, _, rfl, ite2 (fun e => absurd e (n1 (by decide +kernel))) (fun _ => ?_)⟩
      refine ⟨_, rfl, rfl, _, rfl, ite2 (fun _ => ?_) (fun e => absurd (decide_eq_true rfl) e)⟩
      refine ⟨_, rfl, 2, rfl, a, _, rfl, ht, fun w => absurd w (cut2 _ _ c).2, fun _ p np => ?_⟩
      rw [(cut2 _ _ c).1]
      have s1 := Same.new (o := .tup c) np
      have e1 := upd_same (H := H) (a := p) (o := .tup c)
      generalize (upd H p (.tup c)) = H1 at *
      have st1 := st.same s1
      have st2 := st1.stru (n := n) (SqT.of e1)
      have dp := DPut.k (k := Sum.inr n) (v := .ref p) st1.s (big _ S st.ln.2.2.1)
      refine ⟨_, rfl, x, C, dx, _, _, rfl, s1 _ _ ob, X.cl, X.nS, flds_s _ _ _ _, _, rfl, ds, _, rfl, dp, ?_⟩
      exact q _ _ _ _ _ ⟨⟨p, rfl⟩, rfl, rfl, rfl⟩ st2 ((Kp.same s1).trans (Kp.put st.z.2.2.1)) ((Tk.same s1).trans (Tk.dK st1.s))
    | lay n v =>
      have ht : SqT K H a [.str "layout", .str n, v] := hi
      obtain ⟨dx, ob⟩ := st.ob
      refine ⟨_, rfl, a, _, 0, _, rfl, rfl, ht, at_of (j := 0) rfl rfl, _, rfl, a, _, 1, _, rfl, rfl, ht, at_of (j := 1) rfl rfl, ?_⟩
      refine ⟨_, rfl, rfl, _, rfl, ite2 (fun e => absurd e (n1 (by decide +kernel))) (fun _ => ?_)⟩
      refine ⟨_, rfl, rfl, _, rfl, ite2 (fun e => absurd e (n1 (by decide +kernel))) (fun _ => ?_)⟩
      refine ⟨_, rfl, rfl, _, rfl, ite2 (fun e => absurd e (n1 (by decide +kernel))) (fun _ => ?_)⟩
      have dp := DPut.k (k := Sum.inr n) (v := v) st.l (big _ L st.ln.2.2.2)
      refine ⟨_, rfl, a, _, 2, _, rfl, rfl, ht, at_of (j := 2) rfl rfl, _, rfl, x, C, dx, _, _, rfl, ob, X.cl, X.nL, flds_l _ _ _ _, _, rfl, dl, _, rfl, dp, ?_⟩
      exact q _ _ _ _ _ ⟨rfl, rfl, rfl, rfl⟩ st.lay (Kp.put st.z.2.2.2.1) (Tk.dK st.l)
end
end K1
namespace K1
open PySem PySem.Spec PyProof.Rows L2 Ow Tlz
theorem SqL.gw {K : PySem.W.Frag} {H H' : Hp} {x a C dx : Addr} {fs : List (Str × V)} {xs : List V} (e : H x = some (.ins C dx fs)) (g : Gw x H H') (h : SqL K H a xs) : SqL K H' a xs := by
  rcases h with (h | ⟨o, h⟩) | h
  · exact .inl (.inl (g _ _ (fun z => by rw [z, e] at h; cases h) h))
  · exact .inl (.inr ⟨o, g _ _ (fun z => by rw [z, e] at h; cases h) h⟩)
  · exact .inr h
theorem Tk.gwi {K : PySem.W.Frag} {H H' : Hp} {x C dx : Addr} {fs : List (Str × V)} (e : H x = some (.ins C dx fs)) (g : Gw x H H') : Tk K H H' := by
  refine ⟨fun a xs h => ?_, fun a xs ⟨o, h, d⟩ => ⟨o, g _ _ (fun z => by rw [z, e] at h; cases h) h, d⟩⟩
  rcases h with (h | ⟨o, h⟩) | h
  · exact .inl (.inl (g _ _ (fun z => by rw [z, e] at h; cases h) h))
  · exact .inl (.inr ⟨o, g _ _ (fun z => by rw [z, e] at h; cases h) h⟩)
  · exact .inr h
/-- the tables behind some items, put one after another -/
inductive Puts : List It → Tb → Fb → Tb → List (Str × V) → Prop
  | nil : Puts [] [] [] [] []
  | snoc {is : List It} {i : It} {R S R' S' : Tb} {F F' : Fb} {L L' : List (Str × V)} : Puts is R F S L → PutI R F S L i R' F' S' L' → Puts (is ++ [i]) R' F' S' L'
theorem putF_len (f : Str) (v : V) : ∀ fs : List (Str × V), (putF f v fs).length ≤ fs.length + 1
  | [] => Nat.le_refl _
  | (g, x) :: r => by
    rw [putF]
    split
    · exact Nat.le_succ _
    · exact Nat.succ_le_succ (putF_len f v r)
def spInit (K : PySem.W.Frag) (C : Addr) : Sp := fun vs H Q _ => ∃ (x a dx : Addr) (its : List (Addr × It)), vs = [.ref x, .ref a] ∧ H x = some (.ins C dx []) ∧ SqL K H a (its.map fun t => .ref t.1) ∧ (∀ t ∈ its, ItAt K H t.1 t.2) ∧ its.length ≤ 300 ∧
  ∀ (dr df ds dl : Addr) (R S : Tb) (F : Fb) (L : List (Str × V)) H', StAt K C (fun b => H b = none) H' x dr df ds dl R F S L 300 → Puts (its.map (·.2)) R F S L → Gw x H H' → Q .non H'
def spInit0 (K : PySem.W.Frag) (C : Addr) : Sp := fun vs H Q _ => ∃ (x a dx : Addr), vs = [.ref x, .ref a] ∧ H x = some (.ins C dx []) ∧ SqT K H a [] ∧
  ∀ (dr df ds dl : Addr) H', StAt K C (fun b => H b = none) H' x dr df ds dl [] [] [] [] 300 → Gw x H H' → Q .non H'
abbrev sState : Stmt := topS 13
abbrev sInit : Stmt := inClass sState 0
abbrev NInit : List Str := ["self", "items", "item"]
theorem scInit : FnScope NInit ["self", "items"] (defScope sInit) := ⟨rfl, rfl, rfl, by decide +kernel, rfl, by decide +kernel, by decide +kernel⟩
/-- the four fields of a new State -/
structure New (C : Addr) (H H' : Hp) (x d1 d2 d3 d4 : Addr) : Prop where
  ob : ∃ dx, H' x = some (.ins C dx (flds (.ref d1) (.ref d2) (.ref d3) (.ref d4)))
  e1 : H' d1 = some (.dK [])
  e2 : H' d2 = some (.dK [])
  e3 : H' d3 = some (.dK [])
  e4 : H' d4 = some (.dK [])
  n1 : H d1 = none
  n2 : H d2 = none
  n3 : H d3 = none
  n4 : H d4 = none
  ne : d1 ≠ d2 ∧ d1 ≠ d3 ∧ d1 ≠ d4 ∧ d2 ≠ d3 ∧ d2 ≠ d4 ∧ d3 ≠ d4
  gw : Gw x H H'
theorem New.st {K : PySem.W.Frag} {C : Addr} {H H' : Hp} {x dx d1 d2 d3 d4 : Addr} (n : New C H H' x d1 d2 d3 d4) (hx : H x = some (.ins C dx [])) : StAt K C (fun b => H b = none) H' x d1 d2 d3 d4 [] [] [] [] 0 :=
  ⟨n.ob, n.e1, (fun _ m => nomatch m), n.e2, (fun _ m => nomatch m), (fun _ m => nomatch m), .nil, .nil, n.e3, (fun _ m => nomatch m), n.e4, ⟨n.n1, n.n2, n.n3, n.n4, by rw [hx]; exact fun z => nomatch z⟩, n.ne,
    fun a h => by
      by_cases w : a = x
      · obtain ⟨dx, ob⟩ := n.ob
        rw [w, ob] at h
        cases h
      · exact n.gw.free h w, ⟨Nat.le_refl _, Nat.le_refl _, Nat.le_refl _, Nat.le_refl _⟩⟩
theorem fund_ok {P : Program} {w : World} {K : PySem.W.Frag} {mg : Str → Option Value} {base : Heap} {x qual : Str} {st : Stmt} {dvs : List V} {kws : List (Str × V)} {f : Addr} {fd : FuncData} {N ps : List Str} {k : Nat} {sp : Sp}
    (F : FunD K x qual (defArgs st) (defBody st) (defScope st) dvs kws f fd) (S : FnScope N ps (defScope st)) (len : ∀ vs H Q E, sp vs H Q E → vs.length = ps.length)
    (hbody : ∀ (cdv : Value) (A : Around) (outer : List Env) (s : Shared) (H : Hp) (vs : List V) (Q : VK) (E : XK), Room k (A.deeper (envOfC qual (defScope st) s.heap.objs.size f cdv)) → sp vs H Q E →
      ∃ t, PSs (cxOf CX0 P w K mg base N qual (defScope st) f cdv A outer s H E).nox (defBody st) t ∧ t { nx := fun _ H' => Q .non H', rt := Q } (start N vs) H) : FnOk P w K mg base CX0 (k + 1) f fd ps sp := by
  refine F.ok S len fun cdv A outer s H vs Q E hr hsp => ?_
  obtain ⟨t, h, q⟩ := hbody cdv A outer s H vs Q E hr hsp
  exact ⟨t, h.nox, q⟩
section
variable {P : Program} {w : World} {K : PySem.W.Frag} {mg : Str → Option Value} {base : Heap} {C : Addr}
theorem ok_init {f : Addr} {fd : FuncData} {dvs : List V} {kws : List (Str × V)} (F0 : FunD K "__init__" "State.__init__" (defArgs sInit) (defBody sInit) (defScope sInit) dvs kws f fd) (T : Txt K mg C)
    (Dput_item : Kn P w K mg base 5 "put_item" ["state", "item"] (spPutItem K C)) :
    FnOk P w K mg base CX0 6 f fd ["self", "items"] (spInit K C) := by
  refine fund_ok F0 scInit (fun vs H Q E h => ?_) (fun cdv A outer s H vs Q E hr h => ?_)
  · obtain ⟨x, a, dx, its, rfl, _⟩ := h
    rfl
  · obtain ⟨x, a, dx, its, rfl, hx, ha, hi, li, q⟩ := h
    refine ⟨_, (pss_cons (ps_fld (pv 0) pe_dnewK rfl) (pss_cons (ps_fld (pv 0) pe_dnewK rfl) (pss_cons (ps_fld (pv 0) pe_dnewK rfl) (pss_cons (ps_fld (pv 0) pe_dnewK rfl)
      (pss_one (ps_for PassesOwn.never rfl (pi_list (pv 1)) (pg_name (i := 2) scInit.nd rfl (.inl rfl)) (pss_one (ps_expr (pe_kn Dput_item hr (pa_cons (pv 0) (pa_cons (pv 2) pa_nil))))))))))), ?_⟩
    refine fun d1 h1 => ?_
    have x1 : x ≠ d1 := ne_of_none hx h1
    refine ⟨_, rfl, x, C, dx, [], rfl, (by rw [upd_ne x1]; exact hx), T.cl, T.nR, (by show 0 < 1000; decide), ?_⟩
    refine fun d2 h2 => ?_
    have x2 : x ≠ d2 := ne_of_none upd_same h2
    refine ⟨_, rfl, x, C, dx, _, rfl, (by rw [upd_ne x2]; exact upd_same), T.cl, T.nF, (by show 1 < 1000; decide), ?_⟩
    refine fun d3 h3 => ?_
    have x3 : x ≠ d3 := ne_of_none upd_same h3
    refine ⟨_, rfl, x, C, dx, _, rfl, (by rw [upd_ne x3]; exact upd_same), T.cl, T.nS, (by
      have : (putF "facts" (V.ref d2) (putF "relations" (V.ref d1) [])).length ≤ 2 := by
        have := putF_len "facts" (V.ref d2) (putF "relations" (V.ref d1) [])
        exact Nat.le_trans this (Nat.succ_le_succ (putF_len "relations" (V.ref d1) []))
      exact Nat.lt_of_le_of_lt this (by decide)), ?_⟩
    refine fun d4 h4 => ?_
    have x4 : x ≠ d4 := ne_of_none upd_same h4
    refine ⟨_, rfl, x, C, dx, _, rfl, (by rw [upd_ne x4]; exact upd_same), T.cl, T.nL, (by
      have a1 := putF_len "structures" (V.ref d3) (putF "facts" (V.ref d2) (putF "relations" (V.ref d1) []))
      have a2 := putF_len "facts" (V.ref d2) (putF "relations" (V.ref d1) [])
      have a3 := putF_len "relations" (V.ref d1) []
      have a4 : ([] : List (Str × V)).length = 0 := rfl
      omega), ?_⟩
    have nw : New C H (upd (upd (upd (upd (upd (upd (upd (upd H d1 (.dK [])) x (.ins C dx (putF "relations" (.ref d1) []))) d2 (.dK [])) x (.ins C dx (putF "facts" (.ref d2) (putF "relations" (.ref d1) [])))) d3 (.dK [])) x
        (.ins C dx (putF "structures" (.ref d3) (putF "facts" (.ref d2) (putF "relations" (.ref d1) []))))) d4 (.dK [])) x (.ins C dx (putF "layouts" (.ref d4) (putF "structures" (.ref d3) (putF "facts" (.ref d2) (putF "relations" (.ref d1) [])))))) x d1 d2 d3 d4 := by
      have f2 : (upd H d1 (.dK [])) d2 = none := by rw [← upd_ne (H := upd H d1 (.dK [])) (a := x) (o := .ins C dx (putF "relations" (.ref d1) [])) x2.symm]; exact h2
      have n12 : d1 ≠ d2 := ne_of_none upd_same f2
      have f2' : H d2 = none := by rw [← upd_ne (H := H) (a := d1) (o := .dK []) n12.symm]; exact f2
      have f3a := h3
      rw [upd_ne x3.symm] at f3a
      have n23 : d2 ≠ d3 := ne_of_none upd_same f3a
      have f3b : (upd H d1 (.dK [])) d3 = none := by
        rw [upd_ne n23.symm, upd_ne x3.symm] at f3a
        exact f3a
      have n13 : d1 ≠ d3 := ne_of_none upd_same f3b
      have f3' : H d3 = none := by rw [upd_ne n13.symm] at f3b; exact f3b
      rw [upd_ne x4.symm] at h4
      have n34 : d3 ≠ d4 := ne_of_none upd_same h4
      rw [upd_ne n34.symm, upd_ne x4.symm] at h4
      have n24 : d2 ≠ d4 := ne_of_none upd_same h4
      rw [upd_ne n24.symm, upd_ne x4.symm] at h4
      have n14 : d1 ≠ d4 := ne_of_none upd_same h4
      rw [upd_ne n14.symm] at h4
      refine ⟨⟨dx, upd_same⟩, ?_, ?_, ?_, ?_, h1, f2', f3', h4, ⟨n12, n13, n14, n23, n24, n34⟩, ?_⟩
      · rw [upd_ne x1.symm, upd_ne n14, upd_ne x1.symm, upd_ne n13, upd_ne x1.symm, upd_ne n12, upd_ne x1.symm, upd_same]
      · rw [upd_ne x2.symm, upd_ne n24, upd_ne x2.symm, upd_ne n23, upd_ne x2.symm, upd_same]
      · rw [upd_ne x3.symm, upd_ne n34, upd_ne x3.symm, upd_same]
      · rw [upd_ne x4.symm, upd_same]
      · intro b o hb e
        rw [upd_ne hb, upd_ne (ne_of_none e h4), upd_ne hb, upd_ne (ne_of_none e f3'), upd_ne hb, upd_ne (ne_of_none e f2'), upd_ne hb, upd_ne (ne_of_none e h1)]
        exact e
    generalize (upd (upd (upd (upd (upd (upd (upd (upd H d1 (.dK [])) x (.ins C dx (putF "relations" (.ref d1) []))) d2 (.dK [])) x (.ins C dx (putF "facts" (.ref d2) (putF "relations" (.ref d1) [])))) d3 (.dK [])) x
        (.ins C dx (putF "structures" (.ref d3) (putF "facts" (.ref d2) (putF "relations" (.ref d1) []))))) d4 (.dK [])) x (.ins C dx (putF "layouts" (.ref d4) (putF "structures" (.ref d3) (putF "facts" (.ref d2) (putF "relations" (.ref d1) [])))))) = H1 at nw
    have st0 := nw.st (K := K) hx
    have sl1 := SqL.gw hx nw.gw ha
    refine ⟨_, rfl, a, rfl, ⟨_, sl1⟩, for_list (K := K) (a := a) (xs := its.map fun t => .ref t.1) (fun i σ H4 => ∃ (y2 : Option V) (R S : Tb) (F : Fb) (L : List (Str × V)), σ = [some (.ref x), some (.ref a), y2] ∧
        StAt K C (fun b => H b = none) H4 x d1 d2 d3 d4 R F S L i ∧ Puts ((its.take i).map (·.2)) R F S L ∧ Gw x H H4)
      ⟨none, [], [], [], [], rfl, st0, .nil, nw.gw⟩ (fun i σ H4 _ hP => ?_) (fun i y σ H4 hy hP => ?_) (fun σ H4 hP => ?_)⟩
    · obtain ⟨_, _, _, _, _, _, _, _, g⟩ := hP
      exact SqL.gw hx g ha
    · obtain ⟨y2, R, S, F, L, rfl, st, pu, g⟩ := hP
      rw [List.getElem?_map] at hy
      cases e : its[i]? with
      | none => rw [e] at hy; cases hy
      | some t =>
        rw [e] at hy
        have ey : V.ref t.1 = y := Option.some.inj hy
        subst ey
        have il : i < its.length := (List.getElem?_eq_some_iff.mp e).1
        refine ⟨_, rfl, _, rfl, x, t.1, t.2, d1, d2, d3, d4, _, R, S, F, L, i, rfl, st, by omega, (hi t (List.mem_of_getElem? e)).tk (Tk.gwi hx g), fun R' F' S' L' H' pi st' kp tk => ?_⟩
        refine ⟨_, R', S', F', L', rfl, st', ?_, fun b o nb hb => kp b o (fun (z : H b = none) => by rw [hb] at z; cases z) (g b o nb hb)⟩
        have e2 : its.take (i + 1) = its.take i ++ [t] := by rw [List.take_add_one, e]; rfl
        rw [e2, List.map_append]
        exact .snoc pu pi
    · obtain ⟨y2, R, S, F, L, rfl, st, pu, g⟩ := hP
      rw [List.length_map] at st pu
      rw [List.take_length] at pu
      exact q _ _ _ _ _ _ _ _ _ (st.up (by omega)) pu g
theorem ok_init0 {f : Addr} {fd : FuncData} {dvs : List V} {kws : List (Str × V)} (F0 : FunD K "__init__" "State.__init__" (defArgs sInit) (defBody sInit) (defScope sInit) dvs kws f fd) (T : Txt K mg C)
    (Dput_item : Kn P w K mg base 5 "put_item" ["state", "item"] (spPutItem K C)) :
    FnOk P w K mg base CX0 6 f fd ["self", "items"] (spInit0 K C) := by
  refine fund_ok F0 scInit (fun vs H Q E h => ?_) (fun cdv A outer s H vs Q E hr h => ?_)
  · obtain ⟨x, a, dx, rfl, _⟩ := h
    rfl
  · obtain ⟨x, a, dx, rfl, hx, ha, q⟩ := h
    refine ⟨_, (pss_cons (ps_fld (pv 0) pe_dnewK rfl) (pss_cons (ps_fld (pv 0) pe_dnewK rfl) (pss_cons (ps_fld (pv 0) pe_dnewK rfl) (pss_cons (ps_fld (pv 0) pe_dnewK rfl)
      (pss_one (ps_for PassesOwn.never rfl (pi_tup (pv 1)) (pg_name (i := 2) scInit.nd rfl (.inl rfl)) (pss_one (ps_expr (pe_kn Dput_item hr (pa_cons (pv 0) (pa_cons (pv 2) pa_nil))))))))))), ?_⟩
    refine fun d1 h1 => ?_
    have x1 : x ≠ d1 := ne_of_none hx h1
    refine ⟨_, rfl, x, C, dx, [], rfl, (by rw [upd_ne x1]; exact hx), T.cl, T.nR, (by show 0 < 1000; decide), ?_⟩
    refine fun d2 h2 => ?_
    have x2 : x ≠ d2 := ne_of_none upd_same h2
    refine ⟨_, rfl, x, C, dx, _, rfl, (by rw [upd_ne x2]; exact upd_same), T.cl, T.nF, (by show 1 < 1000; decide), ?_⟩
    refine fun d3 h3 => ?_
    have x3 : x ≠ d3 := ne_of_none upd_same h3
    refine ⟨_, rfl, x, C, dx, _, rfl, (by rw [upd_ne x3]; exact upd_same), T.cl, T.nS, (by
      have : (putF "facts" (V.ref d2) (putF "relations" (V.ref d1) [])).length ≤ 2 := by
        have := putF_len "facts" (V.ref d2) (putF "relations" (V.ref d1) [])
        exact Nat.le_trans this (Nat.succ_le_succ (putF_len "relations" (V.ref d1) []))
      exact Nat.lt_of_le_of_lt this (by decide)), ?_⟩
    refine fun d4 h4 => ?_
    have x4 : x ≠ d4 := ne_of_none upd_same h4
    refine ⟨_, rfl, x, C, dx, _, rfl, (by rw [upd_ne x4]; exact upd_same), T.cl, T.nL, (by
      have a1 := putF_len "structures" (V.ref d3) (putF "facts" (V.ref d2) (putF "relations" (V.ref d1) []))
      have a2 := putF_len "facts" (V.ref d2) (putF "relations" (V.ref d1) [])
      have a3 := putF_len "relations" (V.ref d1) []
      have a4 : ([] : List (Str × V)).length = 0 := rfl
      omega), ?_⟩
    have nw : New C H (upd (upd (upd (upd (upd (upd (upd (upd H d1 (.dK [])) x (.ins C dx (putF "relations" (.ref d1) []))) d2 (.dK [])) x (.ins C dx (putF "facts" (.ref d2) (putF "relations" (.ref d1) [])))) d3 (.dK [])) x
        (.ins C dx (putF "structures" (.ref d3) (putF "facts" (.ref d2) (putF "relations" (.ref d1) []))))) d4 (.dK [])) x (.ins C dx (putF "layouts" (.ref d4) (putF "structures" (.ref d3) (putF "facts" (.ref d2) (putF "relations" (.ref d1) [])))))) x d1 d2 d3 d4 := by
      have f2 : (upd H d1 (.dK [])) d2 = none := by rw [← upd_ne (H := upd H d1 (.dK [])) (a := x) (o := .ins C dx (putF "relations" (.ref d1) [])) x2.symm]; exact h2
      have n12 : d1 ≠ d2 := ne_of_none upd_same f2
      have f2' : H d2 = none := by rw [← upd_ne (H := H) (a := d1) (o := .dK []) n12.symm]; exact f2
      have f3a := h3
      rw [upd_ne x3.symm] at f3a
      have n23 : d2 ≠ d3 := ne_of_none upd_same f3a
      have f3b : (upd H d1 (.dK [])) d3 = none := by
        rw [upd_ne n23.symm, upd_ne x3.symm] at f3a
        exact f3a
      have n13 : d1 ≠ d3 := ne_of_none upd_same f3b
      have f3' : H d3 = none := by rw [upd_ne n13.symm] at f3b; exact f3b
      rw [upd_ne x4.symm] at h4
      have n34 : d3 ≠ d4 := ne_of_none upd_same h4
      rw [upd_ne n34.symm, upd_ne x4.symm] at h4
      have n24 : d2 ≠ d4 := ne_of_none upd_same h4
      rw [upd_ne n24.symm, upd_ne x4.symm] at h4
      have n14 : d1 ≠ d4 := ne_of_none upd_same h4
      rw [upd_ne n14.symm] at h4
      refine ⟨⟨dx, upd_same⟩, ?_, ?_, ?_, ?_, h1, f2', f3', h4, ⟨n12, n13, n14, n23, n24, n34⟩, ?_⟩
      · rw [upd_ne x1.symm, upd_ne n14, upd_ne x1.symm, upd_ne n13, upd_ne x1.symm, upd_ne n12, upd_ne x1.symm, upd_same]
      · rw [upd_ne x2.symm, upd_ne n24, upd_ne x2.symm, upd_ne n23, upd_ne x2.symm, upd_same]
      · rw [upd_ne x3.symm, upd_ne n34, upd_ne x3.symm, upd_same]
      · rw [upd_ne x4.symm, upd_same]
      · intro b o hb e
        rw [upd_ne hb, upd_ne (ne_of_none e h4), upd_ne hb, upd_ne (ne_of_none e f3'), upd_ne hb, upd_ne (ne_of_none e f2'), upd_ne hb, upd_ne (ne_of_none e h1)]
        exact e
    generalize (upd (upd (upd (upd (upd (upd (upd (upd H d1 (.dK [])) x (.ins C dx (putF "relations" (.ref d1) []))) d2 (.dK [])) x (.ins C dx (putF "facts" (.ref d2) (putF "relations" (.ref d1) [])))) d3 (.dK [])) x
        (.ins C dx (putF "structures" (.ref d3) (putF "facts" (.ref d2) (putF "relations" (.ref d1) []))))) d4 (.dK [])) x (.ins C dx (putF "layouts" (.ref d4) (putF "structures" (.ref d3) (putF "facts" (.ref d2) (putF "relations" (.ref d1) [])))))) = H1 at nw
    have st0 := nw.st (K := K) hx
    have sl1 := Tk.gwi hx nw.gw _ _ ha
    refine ⟨_, rfl, a, rfl, ⟨_, sl1⟩, for_tup (K := K) (a := a) (xs := []) (fun i σ H4 => H4 = H1) rfl (fun i σ H4 _ hP => ?_) (fun i y σ H4 hy hP => ?_) (fun σ H4 hP => ?_)⟩
    · rw [hP]; exact sl1
    · cases hy
    · rw [hP]
      exact q _ _ _ _ _ (st0.up (by decide)) nw.gw
end
end K1
namespace K1
open PySem PySem.Spec PyProof.Rows L2 Ow Tlz
/-! the order of rows and keys -/
theorem order_zero : ∀ {xs ys : List V}, (∀ x ∈ xs, Scal x) → (∀ y ∈ ys, Scal y) → (orderV xs ys = 0 ↔ xs = ys)
  | [], [], _, _ => by simp [orderV]
  | [], y :: ys, _, _ => by simp [orderV]
  | x :: xs, [], _, _ => by simp [orderV]
  | x :: xs, y :: ys, hx, hy => by
    have sx := hx x List.mem_cons_self
    have sy := hy y List.mem_cons_self
    have ih := order_zero (xs := xs) (ys := ys) (fun v m => hx v (List.mem_cons_of_mem _ m)) fun v m => hy v (List.mem_cons_of_mem _ m)
    rw [order_cons]
    rcases first_tot sx sy with h | h | h
    · rw [if_pos h]
      refine ⟨fun z => absurd z (by decide), fun z => ?_⟩
      have e := (List.cons.inj z).1
      subst e
      rw [first_irr sx] at h
      exact absurd h Bool.false_ne_true
    · subst h
      rw [first_irr sx, if_neg Bool.false_ne_true, if_neg Bool.false_ne_true, ih]
      exact ⟨fun z => by rw [z], fun z => (List.cons.inj z).2⟩
    · have h2 := first_asym sy sx h
      rw [h2, if_neg Bool.false_ne_true, if_pos h]
      refine ⟨fun z => absurd z (by decide), fun z => ?_⟩
      have e := (List.cons.inj z).1
      subst e
      rw [first_irr sx] at h
      exact absurd h Bool.false_ne_true
theorem rlt_tot : ∀ {xs ys : List V}, (∀ x ∈ xs, Scal x) → (∀ y ∈ ys, Scal y) → Rlt xs ys ∨ xs = ys ∨ Rlt ys xs
  | [], [], _, _ => .inr (.inl rfl)
  | [], y :: ys, _, _ => .inl (by unfold Rlt orderV; decide)
  | x :: xs, [], _, _ => .inr (.inr (by unfold Rlt orderV; decide))
  | x :: xs, y :: ys, hx, hy => by
    have sx := hx x List.mem_cons_self
    have sy := hy y List.mem_cons_self
    rw [rlt_cons sx sy, rlt_cons sy sx]
    rcases first_tot sx sy with h | h | h
    · exact .inl (.inl h)
    · subst h
      rcases rlt_tot (xs := xs) (ys := ys) (fun v m => hx v (List.mem_cons_of_mem _ m)) fun v m => hy v (List.mem_cons_of_mem _ m) with h | h | h
      · exact .inl (.inr ⟨rfl, h⟩)
      · exact .inr (.inl (by rw [h]))
      · exact .inr (.inr (.inr ⟨rfl, h⟩))
    · exact .inr (.inr (.inl h))
theorem rlt_asym {xs ys : List V} (hx : ∀ x ∈ xs, Scal x) (hy : ∀ y ∈ ys, Scal y) (h : Rlt xs ys) (g : Rlt ys xs) : False := rlt_irr hx (rlt_trans hx hy hx h g)
abbrev Kt := Int × Str × List V × List V
def tOrd (a b : Kt) : Int := keyOrd a.1 a.2.1 a.2.2.1 b.1 b.2.1 b.2.2.1
def tLt (a b : Kt) : Prop := tOrd a b < 0
instance (a b : Kt) : Decidable (tLt a b) := inferInstanceAs (Decidable (_ < _))
def tEq (a b : Kt) : Prop := a.1 = b.1 ∧ a.2.1 = b.2.1 ∧ a.2.2.1 = b.2.2.1
def tSc (a : Kt) : Prop := ∀ x ∈ a.2.2.1, Scal x
theorem key_e (s s' : Int) (n n' : Str) (xs ys : List V) : keyOrd s n xs s' n' ys = if s = s' then (if n = n' then orderV xs ys else if n.cps.toList < n'.cps.toList then -1 else 1) else if s < s' then -1 else 1 := by
  have e2 : PyData.eqv (kd2 s n) (kd2 s' n') = ((s == s') && (n == n')) := by
    unfold kd2
    rw [eqv_tup, eqv_cons, eqv_cons, eqv_nil, eqv_int, eqv_str, Bool.and_true]
  have l2 : ltD 1 (kd2 s n) (kd2 s' n') = if (s == s') = true then (if (n == n') = true then false else decide (n.cps.toList < n'.cps.toList)) else decide (s < s') := by
    simp only [kd2, ltD, ltL, eqv_int, eqv_str]
  unfold keyOrd
  rw [e2, l2]
  by_cases h : s = s'
  · by_cases g : n = n'
    · simp [h, g]
    · simp [h, g]
  · simp [h]
theorem tLt_iff (a b : Kt) : tLt a b ↔ a.1 < b.1 ∨ (a.1 = b.1 ∧ (a.2.1.cps.toList < b.2.1.cps.toList ∨ (a.2.1 = b.2.1 ∧ Rlt a.2.2.1 b.2.2.1))) := by
  unfold tLt tOrd
  rw [key_e]
  by_cases h : a.1 = b.1
  · rw [if_pos h]
    by_cases g : a.2.1 = b.2.1
    · rw [if_pos g]
      refine ⟨fun z => .inr ⟨h, .inr ⟨g, z⟩⟩, fun z => ?_⟩
      rcases z with z | ⟨_, z | ⟨_, z⟩⟩
      · omega
      · rw [g] at z; exact absurd z (List.lt_irrefl _)
      · exact z
    · rw [if_neg g]
      by_cases c : a.2.1.cps.toList < b.2.1.cps.toList
      · rw [if_pos c]
        exact ⟨fun _ => .inr ⟨h, .inl c⟩, fun _ => by decide⟩
      · rw [if_neg c]
        refine ⟨fun z => absurd z (by decide), fun z => ?_⟩
        rcases z with z | ⟨_, z | ⟨z, _⟩⟩
        · omega
        · exact absurd z c
        · exact absurd z g
  · rw [if_neg h]
    by_cases c : a.1 < b.1
    · rw [if_pos c]
      exact ⟨fun _ => .inl c, fun _ => by decide⟩
    · rw [if_neg c]
      exact ⟨fun z => absurd z (by decide), fun z => z.elim (fun w => absurd w c) fun w => absurd w.1 h⟩
theorem tOrd_zero {a b : Kt} (sa : tSc a) (sb : tSc b) : tOrd a b = 0 ↔ tEq a b := by
  unfold tOrd tEq
  rw [key_e]
  by_cases h : a.1 = b.1
  · rw [if_pos h]
    by_cases g : a.2.1 = b.2.1
    · rw [if_pos g, order_zero sa sb]
      exact ⟨fun z => ⟨h, g, z⟩, fun z => z.2.2⟩
    · rw [if_neg g]
      refine ⟨fun z => ?_, fun z => absurd z.2.1 g⟩
      split at z <;> cases z
  · rw [if_neg h]
    refine ⟨fun z => ?_, fun z => absurd z.1 h⟩
    split at z <;> cases z
theorem tLt_tot {a b : Kt} (sa : tSc a) (sb : tSc b) : tLt a b ∨ tEq a b ∨ tLt b a := by
  rw [tLt_iff, tLt_iff]
  unfold tEq
  rcases Int.lt_trichotomy a.1 b.1 with h | h | h
  · exact .inl (.inl h)
  · rcases str_tot a.2.1 b.2.1 with g | g | g
    · exact .inl (.inr ⟨h, .inl g⟩)
    · rcases rlt_tot sa sb with c | c | c
      · exact .inl (.inr ⟨h, .inr ⟨g, c⟩⟩)
      · exact .inr (.inl ⟨h, g, c⟩)
      · exact .inr (.inr (.inr ⟨h.symm, .inr ⟨g.symm, c⟩⟩))
    · exact .inr (.inr (.inr ⟨h.symm, .inl g⟩))
  · exact .inr (.inr (.inl h))
theorem tLt_trans {a b c : Kt} (sa : tSc a) (sb : tSc b) (sc : tSc c) (h : tLt a b) (g : tLt b c) : tLt a c := by
  rw [tLt_iff] at *
  rcases h with h | ⟨h, h2⟩ <;> rcases g with g | ⟨g, g2⟩
  · exact .inl (by omega)
  · exact .inl (by omega)
  · exact .inl (by omega)
  · refine .inr ⟨by omega, ?_⟩
    rcases h2 with h2 | ⟨h2, h3⟩ <;> rcases g2 with g2 | ⟨g2, g3⟩
    · exact .inl (List.lt_trans h2 g2)
    · exact .inl (by rw [← g2]; exact h2)
    · exact .inl (by rw [h2]; exact g2)
    · exact .inr ⟨h2.trans g2, rlt_trans sa sb sc h3 g3⟩
theorem tLt_irr {a : Kt} (sa : tSc a) (h : tLt a a) : False := by
  rw [tLt_iff] at h
  rcases h with h | ⟨_, h | ⟨_, h⟩⟩
  · omega
  · exact List.lt_irrefl _ h
  · exact rlt_irr sa h
theorem tLt_asym {a b : Kt} (sa : tSc a) (sb : tSc b) (h : tLt a b) (g : tLt b a) : False := tLt_irr sa (tLt_trans sa sb sa h g)
theorem tEq_lt {a b : Kt} (sb : tSc b) (h : tEq a b) (g : tLt a b) : False := by
  rw [tLt_iff, h.1, h.2.1, h.2.2] at g
  rcases g with g | ⟨_, g | ⟨_, g⟩⟩
  · omega
  · exact List.lt_irrefl _ g
  · exact rlt_irr sb g
/-- two lists in strict order with the same members are one -/
theorem srt_uniq {α : Type} {lt : α → α → Prop} : ∀ {xs ys : List α}, xs.Pairwise lt → ys.Pairwise lt → (∀ x ∈ xs, ∀ y ∈ xs, lt x y → lt y x → False) → (∀ x, x ∈ xs ↔ x ∈ ys) → xs = ys
  | [], [], _, _, _, _ => rfl
  | [], y :: ys, _, _, _, h => absurd ((h y).mpr List.mem_cons_self) (by simp)
  | x :: xs, [], _, _, _, h => absurd ((h x).mp List.mem_cons_self) (by simp)
  | x :: xs, y :: ys, px, py, as, h => by
    rw [List.pairwise_cons] at px py
    have e : x = y := by
      rcases List.mem_cons.mp ((h x).mp List.mem_cons_self) with e | mx
      · exact e
      · rcases List.mem_cons.mp ((h y).mpr List.mem_cons_self) with e | my
        · exact e.symm
        · exact (as x List.mem_cons_self y (List.mem_cons_of_mem _ my) (px.1 y my) (py.1 x mx)).elim
    subst e
    have nx : x ∉ xs := fun m => as x List.mem_cons_self x List.mem_cons_self (px.1 x m) (px.1 x m)
    have ny : x ∉ ys := fun m => as x List.mem_cons_self x List.mem_cons_self (py.1 x m) (py.1 x m)
    rw [srt_uniq px.2 py.2 (fun a ma b mb => as a (List.mem_cons_of_mem _ ma) b (List.mem_cons_of_mem _ mb)) fun z => ?_]
    have hz := h z
    rw [List.mem_cons, List.mem_cons] at hz
    refine ⟨fun m => ?_, fun m => ?_⟩
    · rcases hz.mp (.inr m) with e | w
      · subst e; exact absurd m nx
      · exact w
    · rcases hz.mpr (.inr m) with e | w
      · subst e; exact absurd m ny
      · exact w
/-! items and their keys -/
def ier : It → Kt
  | .rel n c => (0, n, [], c)
  | .fact n _ row => (1, n, row, [])
  | .str n c => (2, n, [], c)
  | .lay n v => (3, n, [], [v])
abbrev Its := List (Addr × It)
def te (t : Addr × It) : Kt := ier t.2
def ScI (os : Its) : Prop := ∀ t ∈ os, tSc (te t)
def KSrt (os : Its) : Prop := os.Pairwise fun a b => tLt (te a) (te b)
/-- an item is placed among items in their order -/
def plc (os : Its) (t : Addr × It) : Its :=
  (os.filter fun u => decide (tOrd (te u) (te t) ≠ 0)).take (os.countP fun u => decide (tOrd (te u) (te t) < 0)) ++ [t] ++ (os.filter fun u => decide (tOrd (te u) (te t) ≠ 0)).drop (os.countP fun u => decide (tOrd (te u) (te t) < 0))
theorem plc_mem {os : Its} {t u : Addr × It} (so : ScI os) (st : tSc (te t)) : u ∈ plc os t ↔ u = t ∨ (u ∈ os ∧ ¬ tEq (te u) (te t)) := by
  unfold plc
  rw [List.append_assoc, List.mem_append, List.mem_append, List.mem_singleton]
  have h : u ∈ (os.filter fun u => decide (tOrd (te u) (te t) ≠ 0)) ↔ u ∈ os ∧ ¬ tEq (te u) (te t) := by
    rw [List.mem_filter, decide_eq_true_iff]
    refine ⟨fun z => ⟨z.1, fun w => z.2 ((tOrd_zero (so u z.1) st).mpr w)⟩, fun z => ⟨z.1, fun w => z.2 ((tOrd_zero (so u z.1) st).mp w)⟩⟩
  have g := (List.take_append_drop (os.countP fun u => decide (tOrd (te u) (te t) < 0)) (os.filter fun u => decide (tOrd (te u) (te t) ≠ 0)))
  rw [← h]
  generalize (os.filter fun u => decide (tOrd (te u) (te t) ≠ 0)) = fs at *
  have g2 : u ∈ fs ↔ u ∈ fs.take (os.countP fun u => decide (tOrd (te u) (te t) < 0)) ∨ u ∈ fs.drop (os.countP fun u => decide (tOrd (te u) (te t) < 0)) := by
    rw [← List.mem_append, g]
  rw [g2]
  refine ⟨fun z => ?_, fun z => ?_⟩
  · rcases z with z | z | z
    · exact .inr (.inl z)
    · exact .inl z
    · exact .inr (.inr z)
  · rcases z with z | z | z
    · exact .inr (.inl z)
    · exact .inl z
    · exact .inr (.inr z)
theorem plc_cut : ∀ {os : Its} {t : Addr × It}, KSrt os → ScI os → tSc (te t) →
    (∀ u ∈ (os.filter fun u => decide (tOrd (te u) (te t) ≠ 0)).take (os.countP fun u => decide (tOrd (te u) (te t) < 0)), tLt (te u) (te t)) ∧
    ∀ u ∈ (os.filter fun u => decide (tOrd (te u) (te t) ≠ 0)).drop (os.countP fun u => decide (tOrd (te u) (te t) < 0)), tLt (te t) (te u)
  | [], t, _, _, _ => by simp
  | y :: ys, t, ks, so, st => by
    have ks' := List.pairwise_cons.mp ks
    have so' : ScI ys := fun u m => so u (List.mem_cons_of_mem _ m)
    have sy := so y List.mem_cons_self
    by_cases h : tLt (te y) (te t)
    · have h0 : tOrd (te y) (te t) ≠ 0 := fun z => tEq_lt st ((tOrd_zero sy st).mp z) h
      have ih := plc_cut (os := ys) (t := t) ks'.2 so' st
      rw [List.filter_cons, if_pos (decide_eq_true h0), List.countP_cons, if_pos (decide_eq_true (show tOrd (te y) (te t) < 0 from h)), List.take_succ_cons, List.drop_succ_cons]
      refine ⟨fun u m => ?_, ih.2⟩
      rcases List.mem_cons.mp m with e | m
      · rw [e]; exact h
      · exact ih.1 u m
    · have c0 : (y :: ys).countP (fun u => decide (tOrd (te u) (te t) < 0)) = 0 := by
        rw [List.countP_eq_zero]
        intro u m z
        have z' : tLt (te u) (te t) := of_decide_eq_true z
        rcases List.mem_cons.mp m with e | m
        · rw [e] at z'; exact h z'
        · exact h (tLt_trans sy (so' u m) st (ks'.1 u m) z')
      rw [c0, List.take_zero, List.drop_zero]
      refine ⟨(fun _ m => by cases m), fun u m => ?_⟩
      rw [List.mem_filter, decide_eq_true_iff] at m
      have su := so u m.1
      rcases tLt_tot su st with c | c | c
      · rcases List.mem_cons.mp m.1 with e | m1
        · rw [e] at c; exact absurd c h
        · exact absurd (tLt_trans sy su st (ks'.1 u m1) c) h
      · exact absurd ((tOrd_zero su st).mpr c) m.2
      · exact c
theorem plc_srt {os : Its} {t : Addr × It} (ks : KSrt os) (so : ScI os) (st : tSc (te t)) : KSrt (plc os t) := by
  have h := plc_cut ks so st
  have pf : KSrt (os.filter fun u => decide (tOrd (te u) (te t) ≠ 0)) := List.Pairwise.filter _ ks
  have sf : ScI (os.filter fun u => decide (tOrd (te u) (te t) ≠ 0)) := fun u m => so u (List.mem_filter.mp m).1
  unfold plc
  generalize (os.filter fun u => decide (tOrd (te u) (te t) ≠ 0)) = fs at *
  generalize (os.countP fun u => decide (tOrd (te u) (te t) < 0)) = k at *
  unfold KSrt
  rw [List.append_assoc, List.pairwise_append]
  refine ⟨List.Pairwise.sublist (List.take_sublist _ _) pf, ?_, fun a ma b mb => ?_⟩
  · rw [List.singleton_append, List.pairwise_cons]
    exact ⟨h.2, List.Pairwise.sublist (List.drop_sublist _ _) pf⟩
  · rw [List.singleton_append] at mb
    rcases List.mem_cons.mp mb with e | mb
    · rw [e]; exact h.1 a ma
    · exact tLt_trans (sf a (List.mem_of_mem_take ma)) st (sf b (List.mem_of_mem_drop mb)) (h.1 a ma) (h.2 b mb)
def plcAll (its : Its) : Its := its.foldl plc []
theorem plcAll_snoc (its : Its) (t : Addr × It) : plcAll (its ++ [t]) = plc (plcAll its) t := by
  unfold plcAll
  rw [List.foldl_append]
  rfl
theorem plc_len (os : Its) (t : Addr × It) : (plc os t).length ≤ os.length + 1 := by
  unfold plc
  rw [List.append_assoc, List.length_append, List.length_append, List.length_take, List.length_drop]
  have := List.length_filter_le (fun u => decide (tOrd (te u) (te t) ≠ 0)) os
  show _ + (1 + _) ≤ _
  omega
theorem snoc_ind {α : Type} {P : List α → Prop} (h0 : P []) (hs : ∀ xs x, P xs → P (xs ++ [x])) (xs : List α) : P xs := by
  have h1 : ∀ ys : List α, P ys.reverse := fun ys => by
    induction ys with
    | nil => exact h0
    | cons y ys ih =>
      rw [List.reverse_cons]
      exact hs _ _ ih
  have h2 := h1 xs.reverse
  rw [List.reverse_reverse] at h2
  exact h2
theorem plcAll_ok : ∀ (its : Its), ScI its → KSrt (plcAll its) ∧ ScI (plcAll its) ∧ (plcAll its).length ≤ its.length ∧ ∀ u ∈ plcAll its, u ∈ its := by
  intro its
  refine snoc_ind (P := fun its => ScI its → KSrt (plcAll its) ∧ ScI (plcAll its) ∧ (plcAll its).length ≤ its.length ∧ ∀ u ∈ plcAll its, u ∈ its) (fun _ => ⟨.nil, (fun _ m => by cases m), Nat.le_refl _, fun _ m => by cases m⟩) (fun its t ih => ?_) its
  · intro so
    have so' : ScI its := fun u m => so u (List.mem_append_left _ m)
    have st : tSc (te t) := so t (List.mem_append_right _ (List.mem_singleton.mpr rfl))
    obtain ⟨k1, k2, k3, k4⟩ := ih so'
    rw [plcAll_snoc]
    refine ⟨plc_srt k1 k2 st, fun u m => ?_, ?_, fun u m => ?_⟩
    · rcases (plc_mem k2 st).mp m with e | ⟨m, _⟩
      · rw [e]; exact st
      · exact k2 u m
    · have := plc_len (plcAll its) t
      rw [List.length_append]
      show _ ≤ its.length + 1
      omega
    · rcases (plc_mem k2 st).mp m with e | ⟨m, _⟩
      · rw [e]; exact List.mem_append_right _ (List.mem_singleton.mpr rfl)
      · exact List.mem_append_left _ (k4 u m)
end K1
namespace K1
open PySem PySem.Spec PyProof.Rows L2 Ow Tlz
theorem valG_put {β : Type} (l : List (Str × β)) (k : Str) (b : β) (m : Str) : valG (putG l k b) m = if m = k then some b else valG l m := by
  unfold putG
  rw [any_val]
  cases e : valG l k with
  | none =>
    rw [if_neg (by simp)]
    unfold valG
    rw [List.find?_append]
    by_cases h : m = k
    · subst h
      rw [if_pos rfl]
      have : l.find? (fun e => decide (e.1 = m)) = none := by
        unfold valG at e
        cases z : l.find? (fun e => decide (e.1 = m)) with
        | none => rfl
        | some x => rw [z] at e; cases e
      rw [this]
      simp
    · rw [if_neg h]
      have : [(k, b)].find? (fun e => decide (e.1 = m)) = none := by
        rw [List.find?_cons, decide_eq_false (fun z => h z.symm)]
        rfl
      rw [this, Option.or_none]
  | some a =>
    rw [if_pos (show (some a).isSome = true from rfl)]
    unfold valG
    rw [List.find?_map]
    have ef : ((fun e : Str × β => decide (e.1 = m)) ∘ fun e => if e.1 = k then (e.1, b) else e) = fun e => decide (e.1 = m) := by
      funext e
      show decide ((if e.1 = k then (e.1, b) else e).1 = m) = _
      split <;> rfl
    rw [ef]
    by_cases h : m = k
    · subst h
      rw [if_pos rfl]
      unfold valG at e
      cases z : l.find? (fun e => decide (e.1 = m)) with
      | none => rw [z] at e; cases e
      | some x =>
        have hx0 := List.find?_some z
        have hx : x.1 = m := of_decide_eq_true hx0
        show some (if x.1 = m then (x.1, b) else x).2 = _
        rw [if_pos hx]
    · rw [if_neg h]
      cases z : l.find? (fun e => decide (e.1 = m)) with
      | none => rfl
      | some x =>
        have hx0 := List.find?_some z
        have hx : x.1 = m := of_decide_eq_true hx0
        show some (if x.1 = k then (x.1, b) else x).2 = some x.2
        rw [if_neg (fun w => h (hx.symm.trans w))]
theorem valG_key {β : Type} {l : List (Str × β)} {n : Str} : n ∈ l.map (·.1) ↔ (valG l n).isSome = true := by
  constructor
  · intro h
    cases e : valG l n with
    | none =>
      obtain ⟨x, mx, ex⟩ := List.mem_map.mp h
      exact absurd ex (valG_none e x mx)
    | some b => rfl
  · intro h
    cases e : valG l n with
    | none => rw [e] at h; cases h
    | some b => exact List.mem_map.mpr ⟨_, valG_mem e, rfl⟩
theorem valG_map {β γ : Type} (g : β → γ) (l : List (Str × β)) (n : Str) : valG (l.map fun e => (e.1, g e.2)) n = (valG l n).map g := by
  unfold valG
  rw [List.find?_map]
  cases z : l.find? (fun e => decide (e.1 = n)) with
  | none =>
    rw [show ((fun e : Str × γ => decide (e.1 = n)) ∘ fun e : Str × β => (e.1, g e.2)) = fun e => decide (e.1 = n) from rfl, z]
    rfl
  | some x =>
    rw [show ((fun e : Str × γ => decide (e.1 = n)) ∘ fun e : Str × β => (e.1, g e.2)) = fun e => decide (e.1 = n) from rfl, z]
    rfl
theorem keys_len {β γ : Type} {l : List (Str × β)} {l' : List (Str × γ)} (n1 : (l.map (·.1)).Nodup) (n2 : (l'.map (·.1)).Nodup) (h : ∀ n, (valG l n).isSome = (valG l' n).isSome) : l.length = l'.length := by
  have p : (l.map (·.1)).Perm (l'.map (·.1)) := (List.perm_ext_iff_of_nodup n1 n2).mpr fun n => by rw [valG_key, valG_key, h]
  have := p.length_eq
  rw [List.length_map, List.length_map] at this
  exact this
/-! what tables have -/
def Has (os : Its) (i : It) : Prop := ∃ a, (a, i) ∈ os
def SrtS (rs : List (Addr × List V)) : Prop := Srt rs ∧ ∀ t ∈ rs, ∀ x ∈ t.2, Scal x
structure Rep (os : Its) (R : Tb) (F : Fb) (S : Tb) (L : List (Str × V)) : Prop where
  r : ∀ n c, (∃ q, valG R n = some (q, c)) ↔ Has os (.rel n c)
  s : ∀ n c, (∃ q, valG S n = some (q, c)) ↔ Has os (.str n c)
  l : ∀ n v, valG L n = some v ↔ Has os (.lay n v)
  f : ∀ n row, (∃ q rs, valG F n = some (q, rs) ∧ ∃ r, (r, row) ∈ rs) ↔ ∃ r, Has os (.fact n r row)
  fn : ∀ n, (valG F n).isSome = true ↔ (∃ c, Has os (.rel n c)) ∨ ∃ r row, Has os (.fact n r row)
  fs : ∀ n q rs, valG F n = some (q, rs) → SrtS rs
  rn : (R.map (·.1)).Nodup
  sn : (S.map (·.1)).Nodup
  ln : (L.map (·.1)).Nodup
  fd : (F.map (·.1)).Nodup
theorem Rep.nil : Rep [] [] [] [] [] := by
  refine ⟨fun n c => ?_, fun n c => ?_, fun n v => ?_, fun n row => ?_, fun n => ?_, (fun n q rs h => by cases h), .nil, .nil, .nil, .nil⟩
  · exact ⟨fun ⟨q, h⟩ => (by cases h), fun ⟨a, h⟩ => by cases h⟩
  · exact ⟨fun ⟨q, h⟩ => (by cases h), fun ⟨a, h⟩ => by cases h⟩
  · exact ⟨fun h => (by cases h), fun ⟨a, h⟩ => by cases h⟩
  · exact ⟨fun ⟨q, rs, h, _⟩ => (by cases h), fun ⟨r, a, h⟩ => by cases h⟩
  · exact ⟨fun h => (by cases h), fun h => by rcases h with ⟨c, a, h⟩ | ⟨r, row, a, h⟩ <;> cases h⟩
theorem place_srt {rs : List (Addr × List V)} {row : List V} {r : Addr} {k : Nat} (h : SrtS rs) (sr : ∀ x ∈ row, Scal x) (lk : k ≤ rs.length) (pl : Place rs row k) (nk : ∀ t, rs[k]? = some t → t.2 ≠ row) :
    SrtS (rs.take k ++ [(r, row)] ++ rs.drop k) := by
  have bef : ∀ t ∈ rs.take k, Rlt t.2 row := fun t m => by
    obtain ⟨j, hj, e⟩ := List.mem_iff_getElem.mp m
    rw [List.length_take] at hj
    rw [List.getElem_take] at e
    exact pl.1 j t (by omega) (by rw [← e]; exact List.getElem?_eq_getElem (by omega))
  have aft : ∀ t ∈ rs.drop k, Rlt row t.2 := fun t m => by
    obtain ⟨j, hj, e⟩ := List.mem_iff_getElem.mp m
    rw [List.length_drop] at hj
    rw [List.getElem_drop] at e
    have et : rs[k + j]? = some t := by rw [← e]; exact List.getElem?_eq_getElem (by omega)
    have lk2 : k < rs.length := by omega
    have ek : rs[k]? = some rs[k] := List.getElem?_eq_getElem lk2
    have s0 := h.2 rs[k] (List.getElem_mem lk2)
    have h0 : Rlt row rs[k].2 := by
      rcases rlt_tot sr s0 with c | c | c
      · exact c
      · exact absurd c.symm (nk _ ek)
      · exact absurd c (pl.2 k _ (Nat.le_refl _) ek)
    by_cases hj0 : j = 0
    · subst hj0
      rw [Nat.add_zero, ek] at et
      rw [← Option.some.inj et]
      exact h0
    · exact rlt_trans sr s0 (h.2 t (List.mem_of_getElem? et)) h0 (srt_lt h.1 ek et (by omega))
  refine ⟨?_, fun t m => ?_⟩
  · unfold Srt
    rw [List.append_assoc, List.pairwise_append]
    refine ⟨List.Pairwise.sublist (List.take_sublist _ _) h.1, ?_, fun a ma b mb => ?_⟩
    · rw [List.singleton_append, List.pairwise_cons]
      exact ⟨aft, List.Pairwise.sublist (List.drop_sublist _ _) h.1⟩
    · rw [List.singleton_append] at mb
      rcases List.mem_cons.mp mb with e | mb
      · rw [e]; exact bef a ma
      · exact rlt_trans (h.2 a (List.mem_of_mem_take ma)) sr (h.2 b (List.mem_of_mem_drop mb)) (bef a ma) (aft b mb)
  · rw [List.append_assoc, List.mem_append, List.mem_append, List.mem_singleton] at m
    rcases m with m | m | m
    · exact h.2 t (List.mem_of_mem_take m)
    · rw [m]; exact sr
    · exact h.2 t (List.mem_of_mem_drop m)
theorem mem_cut {α : Type} {rs : List α} {x y : α} {k : Nat} : y ∈ rs.take k ++ [x] ++ rs.drop k ↔ y = x ∨ y ∈ rs := by
  have h : y ∈ rs ↔ y ∈ rs.take k ∨ y ∈ rs.drop k := by rw [← List.mem_append, List.take_append_drop]
  rw [List.append_assoc, List.mem_append, List.mem_append, List.mem_singleton, h]
  exact ⟨fun z => z.elim (fun w => .inr (.inl w)) fun w => w.elim .inl fun v => .inr (.inr v), fun z => z.elim (fun w => .inr (.inl w)) fun w => w.elim .inl fun v => .inr (.inr v)⟩
/-- what a put fact changes in the table of facts -/
theorem putF_rep {F F' : Fb} {n : Str} {r : Addr} {row : List V} (h : PutF F n r row F') (fs : ∀ m q rs, valG F m = some (q, rs) → SrtS rs) (fd : (F.map (·.1)).Nodup) (sr : ∀ x ∈ row, Scal x) :
    (∀ m row', (∃ q rs, valG F' m = some (q, rs) ∧ ∃ r, (r, row') ∈ rs) ↔ (m = n ∧ row' = row) ∨ ∃ q rs, valG F m = some (q, rs) ∧ ∃ r, (r, row') ∈ rs) ∧
    (∀ m, (valG F' m).isSome = true ↔ m = n ∨ (valG F m).isSome = true) ∧ (∀ m q rs, valG F' m = some (q, rs) → SrtS rs) ∧ (F'.map (·.1)).Nodup := by
  obtain ⟨q, rs, F1, k, how, lk, pl, h2⟩ := h
  -- the name is there
  have h1 : valG F1 n = some (q, rs) ∧ (∀ m, m ≠ n → valG F1 m = valG F m) ∧ (∀ row', (∃ q rs, valG F n = some (q, rs) ∧ ∃ r, (r, row') ∈ rs) ↔ ∃ r, (r, row') ∈ rs) ∧ SrtS rs ∧ (F1.map (·.1)).Nodup := by
    rcases how with ⟨e, ev⟩ | ⟨ev, e, e1⟩
    · subst e
      refine ⟨ev, fun _ _ => rfl, fun row' => ⟨fun ⟨q', rs', e', w⟩ => ?_, fun w => ⟨q, rs, ev, w⟩⟩, fs _ _ _ ev, fd⟩
      rw [ev] at e'
      cases e'
      exact w
    · subst e e1
      rw [← putG_new (q, ([] : List (Addr × List V))) ev]
      refine ⟨by rw [valG_put, if_pos rfl], fun m hm => by rw [valG_put, if_neg hm], fun row' => ⟨fun ⟨q', rs', e', w⟩ => ?_, fun ⟨r, w⟩ => by cases w⟩, ⟨.nil, (fun _ m => by cases m)⟩, putG_nodup fd⟩
      rw [ev] at e'
      cases e'
  obtain ⟨hv, ho, hm, hs, hd⟩ := h1
  rcases h2 with ⟨e, t, et, er⟩ | ⟨e, nk⟩
  · subst e
    refine ⟨fun m row' => ?_, fun m => ?_, fun m q' rs' ev => ?_, hd⟩
    · by_cases c : m = n
      · subst c
        rw [hm]
        refine ⟨fun ⟨q', rs', e', w⟩ => ?_, fun w => ?_⟩
        · rw [hv] at e'
          cases e'
          exact .inr w
        · refine ⟨q, rs, hv, ?_⟩
          rcases w with ⟨_, w⟩ | w
          · rw [w, ← er]
            exact ⟨t.1, List.mem_of_getElem? et⟩
          · exact w
      · rw [ho m c]
        exact ⟨.inr, fun w => w.elim (fun z => absurd z.1 c) id⟩
    · by_cases c : m = n
      · subst c
        rw [hv]
        exact ⟨fun _ => .inl rfl, fun _ => rfl⟩
      · rw [ho m c]
        exact ⟨.inr, fun w => w.elim (fun z => absurd z c) id⟩
    · by_cases c : m = n
      · subst c
        rw [hv] at ev
        cases ev
        exact hs
      · rw [ho m c] at ev
        exact fs _ _ _ ev
  · subst e
    have ps := place_srt (r := r) hs sr lk (pl hs.1) nk
    refine ⟨fun m row' => ?_, fun m => ?_, fun m q' rs' ev => ?_, putG_nodup hd⟩
    · rw [valG_put]
      by_cases c : m = n
      · subst c
        rw [if_pos rfl, hm]
        refine ⟨fun ⟨q', rs', e', r', w⟩ => ?_, fun w => ⟨_, _, rfl, ?_⟩⟩
        · cases e'
          rcases mem_cut.mp w with w | w
          · exact .inl ⟨rfl, congrArg Prod.snd w⟩
          · exact .inr ⟨_, w⟩
        · rcases w with ⟨_, w⟩ | ⟨r', w⟩
          · rw [w]
            exact ⟨r, mem_cut.mpr (.inl rfl)⟩
          · exact ⟨r', mem_cut.mpr (.inr w)⟩
      · rw [if_neg c, ho m c]
        exact ⟨.inr, fun w => w.elim (fun z => absurd z.1 c) id⟩
    · rw [valG_put]
      by_cases c : m = n
      · rw [if_pos c]
        exact ⟨fun _ => .inl c, fun _ => rfl⟩
      · rw [if_neg c, ho m c]
        exact ⟨.inr, fun w => w.elim (fun z => absurd z c) id⟩
    · rw [valG_put] at ev
      by_cases c : m = n
      · rw [if_pos c] at ev
        cases ev
        exact ps
      · rw [if_neg c, ho m c] at ev
        exact fs _ _ _ ev
theorem eq_rel {n m : Str} {c c' : List V} : tEq (ier (.rel n c)) (ier (.rel m c')) ↔ n = m := ⟨fun h => h.2.1, fun h => ⟨rfl, h, rfl⟩⟩
theorem eq_str {n m : Str} {c c' : List V} : tEq (ier (.str n c)) (ier (.str m c')) ↔ n = m := ⟨fun h => h.2.1, fun h => ⟨rfl, h, rfl⟩⟩
theorem eq_lay {n m : Str} {c c' : V} : tEq (ier (.lay n c)) (ier (.lay m c')) ↔ n = m := ⟨fun h => h.2.1, fun h => ⟨rfl, h, rfl⟩⟩
theorem eq_fact {n m : Str} {r r' : Addr} {c c' : List V} : tEq (ier (.fact n r c)) (ier (.fact m r' c')) ↔ n = m ∧ c = c' := ⟨fun h => h.2, fun h => ⟨rfl, h⟩⟩
/-- an item that is placed, and what the items have then -/
theorem has_plc {os : Its} {t : Addr × It} (so : ScI os) (st : tSc (te t)) (i : It) : Has (plc os t) i ↔ i = t.2 ∨ (Has os i ∧ ¬ tEq (ier i) (te t)) := by
  unfold Has
  constructor
  · rintro ⟨a, m⟩
    rcases (plc_mem so st).mp m with e | ⟨m, ne⟩
    · exact .inl (by rw [← e])
    · exact .inr ⟨⟨a, m⟩, ne⟩
  · rintro (e | ⟨⟨a, m⟩, ne⟩)
    · exact ⟨t.1, (plc_mem so st).mpr (.inl (by rw [e]))⟩
    · exact ⟨a, (plc_mem so st).mpr (.inr ⟨m, ne⟩)⟩
theorem sort_ne {i : It} {t : Addr × It} (h : (ier i).1 ≠ (te t).1) (os : Its) : (i = t.2 ∨ (Has os i ∧ ¬ tEq (ier i) (te t))) ↔ Has os i :=
  ⟨fun z => z.elim (fun e => absurd (by rw [e]; rfl) h) (·.1), fun z => .inr ⟨z, fun w => h w.1⟩⟩
theorem tab_put {T : Tb} {n : Str} {q : Addr} {c : List V} {P : Str → List V → Prop} (h : ∀ m c', (∃ q, valG T m = some (q, c')) ↔ P m c') (m : Str) (c' : List V) :
    (∃ q', valG (putG T n (q, c)) m = some (q', c')) ↔ (m = n ∧ c' = c) ∨ (P m c' ∧ ¬ m = n) := by
  rw [valG_put]
  by_cases e : m = n
  · rw [if_pos e]
    exact ⟨fun ⟨q', z⟩ => .inl ⟨e, by cases z; rfl⟩, fun z => z.elim (fun w => ⟨q, by rw [w.2]⟩) fun w => absurd e w.2⟩
  · rw [if_neg e, h]
    exact ⟨fun z => .inr ⟨z, e⟩, fun z => z.elim (fun w => absurd w.1 e) (·.1)⟩
theorem Rep.put {os : Its} {t : Addr × It} {R R' S S' : Tb} {F F' : Fb} {L L' : List (Str × V)} (h : Rep os R F S L) (p : PutI R F S L t.2 R' F' S' L') (so : ScI os) (st : tSc (te t)) : Rep (plc os t) R' F' S' L' := by
  obtain ⟨hr, hs, hl, hf, hfn, hfs, rn, sn, ln, fd⟩ := h
  have hp := has_plc so st
  obtain ⟨a, i⟩ := t
  cases i with
  | rel n c =>
    obtain ⟨⟨q, e1⟩, h2, e3, e4⟩ := p
    subst e1 e3 e4
    have hF : (∀ m row, (∃ q rs, valG F' m = some (q, rs) ∧ ∃ r, (r, row) ∈ rs) ↔ ∃ q rs, valG F m = some (q, rs) ∧ ∃ r, (r, row) ∈ rs) ∧ (∀ m, (valG F' m).isSome = true ↔ m = n ∨ (valG F m).isSome = true) ∧ (∀ m q rs, valG F' m = some (q, rs) → SrtS rs) ∧ (F'.map (·.1)).Nodup := by
      rcases h2 with ⟨sm, e⟩ | ⟨q', ev, e⟩
      · subst e
        exact ⟨fun _ _ => Iff.rfl, fun m => ⟨.inr, fun z => z.elim (fun w => by rw [w]; exact sm) id⟩, hfs, fd⟩
      · subst e
        rw [← putG_new (q', ([] : List (Addr × List V))) ev]
        refine ⟨fun m row => ?_, fun m => ?_, fun m q2 rs2 e2 => ?_, putG_nodup fd⟩
        · rw [valG_put]
          by_cases c : m = n
          · subst c
            rw [if_pos rfl, ev]
            exact ⟨fun ⟨_, _, z, r, w⟩ => (by cases z; cases w), fun ⟨_, _, z, _⟩ => (by cases z)⟩
          · rw [if_neg c]
        · rw [valG_put]
          by_cases c : m = n
          · rw [if_pos c]; exact ⟨fun _ => .inl c, fun _ => rfl⟩
          · rw [if_neg c]; exact ⟨.inr, fun z => z.elim (fun w => absurd w c) id⟩
        · rw [valG_put] at e2
          by_cases c : m = n
          · rw [if_pos c] at e2
            cases e2
            exact ⟨.nil, fun _ m => by cases m⟩
          · rw [if_neg c] at e2
            exact hfs _ _ _ e2
    obtain ⟨f1, f2, f3, f4⟩ := hF
    refine ⟨fun m c' => ?_, fun m c' => ?_, fun m v => ?_, fun m row => ?_, fun m => ?_, f3, putG_nodup rn, sn, ln, f4⟩
    · rw [tab_put hr, hp]
      show _ ↔ (It.rel m c' = It.rel n c ∨ (Has os (.rel m c') ∧ ¬ tEq (ier (.rel m c')) (ier (.rel n c))))
      rw [eq_rel, It.rel.injEq]
    · rw [hp, sort_ne (by show (2 : Int) ≠ 0; decide), hs]
    · rw [hp, sort_ne (by show (3 : Int) ≠ 0; decide), hl]
    · rw [f1, hf]
      refine exists_congr fun r => ?_
      rw [hp, sort_ne (by show (1 : Int) ≠ 0; decide)]
    · rw [f2, hfn]
      constructor
      · rintro (e | ⟨c', z⟩ | ⟨r, row, z⟩)
        · exact .inl ⟨c, (hp _).mpr (.inl (by rw [e]))⟩
        · by_cases e : m = n
          · exact .inl ⟨c, (hp _).mpr (.inl (by rw [e]))⟩
          · exact .inl ⟨c', (hp _).mpr (.inr ⟨z, fun w => e (eq_rel.mp w)⟩)⟩
        · exact .inr ⟨r, row, by rw [hp, sort_ne (by show (1 : Int) ≠ 0; decide)]; exact z⟩
      · rintro (⟨c', z⟩ | ⟨r, row, z⟩)
        · rcases (hp _).mp z with e | ⟨z, _⟩
          · exact .inl (It.rel.inj e).1
          · exact .inr (.inl ⟨c', z⟩)
        · rw [hp, sort_ne (by show (1 : Int) ≠ 0; decide)] at z
          exact .inr (.inr ⟨r, row, z⟩)
  | fact n r row =>
    obtain ⟨pf, e1, e3, e4⟩ := p
    subst e1 e3 e4
    obtain ⟨f1, f2, f3, f4⟩ := putF_rep pf hfs fd st
    refine ⟨fun m c' => ?_, fun m c' => ?_, fun m v => ?_, fun m row' => ?_, fun m => ?_, f3, rn, sn, ln, f4⟩
    · rw [hp, sort_ne (by show (0 : Int) ≠ 1; decide), hr]
    · rw [hp, sort_ne (by show (2 : Int) ≠ 1; decide), hs]
    · rw [hp, sort_ne (by show (3 : Int) ≠ 1; decide), hl]
    · rw [f1, hf]
      constructor
      · rintro (⟨e1, e2⟩ | ⟨r', z⟩)
        · exact ⟨r, (hp _).mpr (.inl (by rw [e1, e2]))⟩
        · by_cases e : m = n ∧ row' = row
          · exact ⟨r, (hp _).mpr (.inl (by rw [e.1, e.2]))⟩
          · exact ⟨r', (hp _).mpr (.inr ⟨z, fun w => e (eq_fact.mp w)⟩)⟩
      · rintro ⟨r', z⟩
        rcases (hp _).mp z with e | ⟨z, _⟩
        · exact .inl ⟨(It.fact.inj e).1, (It.fact.inj e).2.2⟩
        · exact .inr ⟨r', z⟩
    · rw [f2, hfn]
      constructor
      · rintro (e | ⟨c', z⟩ | ⟨r', row', z⟩)
        · exact .inr ⟨r, row, (hp _).mpr (.inl (by rw [e]))⟩
        · exact .inl ⟨c', by rw [hp, sort_ne (by show (0 : Int) ≠ 1; decide)]; exact z⟩
        · by_cases e : m = n ∧ row' = row
          · exact .inr ⟨r, row, (hp _).mpr (.inl (by rw [e.1]))⟩
          · exact .inr ⟨r', row', (hp _).mpr (.inr ⟨z, fun w => e (eq_fact.mp w)⟩)⟩
      · rintro (⟨c', z⟩ | ⟨r', row', z⟩)
        · rw [hp, sort_ne (by show (0 : Int) ≠ 1; decide)] at z
          exact .inr (.inl ⟨c', z⟩)
        · rcases (hp _).mp z with e | ⟨z, _⟩
          · exact .inl (It.fact.inj e).1
          · exact .inr (.inr ⟨r', row', z⟩)
  | str n c =>
    obtain ⟨⟨q, e1⟩, e2, e3, e4⟩ := p
    subst e1 e2 e3 e4
    refine ⟨fun m c' => ?_, fun m c' => ?_, fun m v => ?_, fun m row => ?_, fun m => ?_, hfs, rn, putG_nodup sn, ln, fd⟩
    · rw [hp, sort_ne (by show (0 : Int) ≠ 2; decide), hr]
    · rw [tab_put hs, hp]
      show _ ↔ (It.str m c' = It.str n c ∨ (Has os (.str m c') ∧ ¬ tEq (ier (.str m c')) (ier (.str n c))))
      rw [eq_str, It.str.injEq]
    · rw [hp, sort_ne (by show (3 : Int) ≠ 2; decide), hl]
    · rw [hf]
      exact exists_congr fun r => by rw [hp, sort_ne (by show (1 : Int) ≠ 2; decide)]
    · rw [hfn]
      exact or_congr (exists_congr fun c => by rw [hp, sort_ne (by show (0 : Int) ≠ 2; decide)]) (exists_congr fun r => exists_congr fun row => by rw [hp, sort_ne (by show (1 : Int) ≠ 2; decide)])
  | lay n v =>
    obtain ⟨e1, e2, e3, e4⟩ := p
    subst e1 e2 e3 e4
    refine ⟨fun m c' => ?_, fun m c' => ?_, fun m v' => ?_, fun m row => ?_, fun m => ?_, hfs, rn, sn, putG_nodup ln, fd⟩
    · rw [hp, sort_ne (by show (0 : Int) ≠ 3; decide), hr]
    · rw [hp, sort_ne (by show (2 : Int) ≠ 3; decide), hs]
    · rw [valG_put, hp]
      show _ ↔ (It.lay m v' = It.lay n v ∨ (Has os (.lay m v') ∧ ¬ tEq (ier (.lay m v')) (ier (.lay n v))))
      rw [eq_lay, It.lay.injEq]
      by_cases e : m = n
      · rw [if_pos e]
        exact ⟨fun z => .inl ⟨e, (Option.some.inj z).symm⟩, fun z => z.elim (fun w => by rw [w.2]) fun w => absurd e w.2⟩
      · rw [if_neg e, hl]
        exact ⟨fun z => .inr ⟨z, e⟩, fun z => z.elim (fun w => absurd w.1 e) (·.1)⟩
    · rw [hf]
      exact exists_congr fun r => by rw [hp, sort_ne (by show (1 : Int) ≠ 3; decide)]
    · rw [hfn]
      exact or_congr (exists_congr fun c => by rw [hp, sort_ne (by show (0 : Int) ≠ 3; decide)]) (exists_congr fun r => exists_congr fun row => by rw [hp, sort_ne (by show (1 : Int) ≠ 3; decide)])
theorem Puts.rep {is : List It} {R S : Tb} {F : Fb} {L : List (Str × V)} (h : Puts is R F S L) : ∀ its : Its, its.map (·.2) = is → ScI its → Rep (plcAll its) R F S L := by
  induction h with
  | nil =>
    intro its e _
    rw [List.map_eq_nil_iff.mp e]
    exact Rep.nil
  | snoc _ p ih =>
    intro its e so
    obtain ⟨l1, l2, e0, e1, e2⟩ := List.map_eq_append_iff.mp e
    obtain ⟨t, e3, e4⟩ := List.map_eq_singleton_iff.mp e2
    subst e3 e4
    subst e0
    have so' : ScI l1 := fun u m => so u (List.mem_append_left _ m)
    rw [plcAll_snoc]
    exact (ih l1 e1 so').put p (plcAll_ok l1 so').2.1 (so t (List.mem_append_right _ (List.mem_singleton.mpr rfl)))
/-! two tables of the same items -/
theorem rows_eq {rs rs' : List (Addr × List V)} (h : SrtS rs) (h' : SrtS rs') (e : ∀ row, (∃ r, (r, row) ∈ rs) ↔ ∃ r, (r, row) ∈ rs') : rs.map (·.2) = rs'.map (·.2) := by
  have mm : ∀ {ts : List (Addr × List V)} {row : List V}, row ∈ ts.map (·.2) ↔ ∃ r, (r, row) ∈ ts := fun {ts row} => by
    rw [List.mem_map]
    exact ⟨fun ⟨t, m, z⟩ => ⟨t.1, by rw [← z]; exact m⟩, fun ⟨r, m⟩ => ⟨_, m, rfl⟩⟩
  refine srt_uniq (lt := Rlt) (List.pairwise_map.mpr h.1) (List.pairwise_map.mpr h'.1) (fun x mx y my => ?_) fun row => by rw [mm, mm, e]
  obtain ⟨r, mr⟩ := mm.mp mx
  obtain ⟨r', mr'⟩ := mm.mp my
  exact rlt_asym (h.2 _ mr) (h.2 _ mr')
section
variable {os : Its} {R S R' S' : Tb} {F F' : Fb} {L L' : List (Str × V)}
theorem tab_some {T T' : Tb} {P : Str → List V → Prop} (h : ∀ m c', (∃ q, valG T m = some (q, c')) ↔ P m c') (h' : ∀ m c', (∃ q, valG T' m = some (q, c')) ↔ P m c') (n : Str) : (valG T n).isSome = (valG T' n).isSome := by
  cases e : valG T n with
  | none =>
    cases e' : valG T' n with
    | none => rfl
    | some b =>
      obtain ⟨q, z⟩ := (h n b.2).mpr ((h' n b.2).mp ⟨b.1, e'⟩)
      rw [e] at z
      cases z
  | some b =>
    obtain ⟨q, z⟩ := (h' n b.2).mpr ((h n b.2).mp ⟨b.1, e⟩)
    rw [z]
    rfl
theorem Rep.eqR (h : Rep os R F S L) (h' : Rep os R' F' S' L') : R.length = R'.length ∧ ∀ n q c, valG R' n = some (q, c) → ∃ q', valG R n = some (q', c) :=
  ⟨keys_len h.rn h'.rn (tab_some h.r h'.r), fun n q c e => (h.r n c).mpr ((h'.r n c).mp ⟨q, e⟩)⟩
theorem Rep.eqS (h : Rep os R F S L) (h' : Rep os R' F' S' L') : S.length = S'.length ∧ ∀ n q c, valG S' n = some (q, c) → ∃ q', valG S n = some (q', c) :=
  ⟨keys_len h.sn h'.sn (tab_some h.s h'.s), fun n q c e => (h.s n c).mpr ((h'.s n c).mp ⟨q, e⟩)⟩
theorem Rep.eqL (h : Rep os R F S L) (h' : Rep os R' F' S' L') : L.length = L'.length ∧ ∀ n v, valG L' n = some v → valG L n = some v := by
  refine ⟨keys_len h.ln h'.ln fun n => ?_, fun n v e => (h.l n v).mpr ((h'.l n v).mp e)⟩
  cases e : valG L n with
  | none =>
    cases e' : valG L' n with
    | none => rfl
    | some b =>
      have z := (h.l n b).mpr ((h'.l n b).mp e')
      rw [e] at z
      cases z
  | some b => rw [(h'.l n b).mpr ((h.l n b).mp e)]
theorem Rep.eqF (h : Rep os R F S L) (h' : Rep os R' F' S' L') : F.length = F'.length ∧ ∀ n q rs, valG F' n = some (q, rs) → ∃ q' rs', valG F n = some (q', rs') ∧ rs'.map (·.2) = rs.map (·.2) := by
  have sm : ∀ n, (valG F n).isSome = (valG F' n).isSome := fun n => Bool.eq_iff_iff.mpr (by rw [h.fn, h'.fn])
  refine ⟨keys_len h.fd h'.fd sm, fun n q rs e => ?_⟩
  have z := sm n
  rw [e] at z
  cases e2 : valG F n with
  | none => rw [e2] at z; cases z
  | some b =>
    refine ⟨b.1, b.2, rfl, rows_eq (h.fs _ _ _ e2) (h'.fs _ _ _ e) fun row => ?_⟩
    have a1 := h.f n row
    have a2 := h'.f n row
    rw [e2] at a1
    rw [e] at a2
    refine ⟨fun w => ?_, fun w => ?_⟩
    · obtain ⟨q3, rs3, e3, w3⟩ := a2.mpr (a1.mp ⟨_, _, rfl, w⟩)
      cases e3
      exact w3
    · obtain ⟨q3, rs3, e3, w3⟩ := a1.mpr (a2.mp ⟨_, _, rfl, w⟩)
      cases e3
      exact w3
theorem Rep.copyF (h : Rep os R F S L) (e : F'.map (fun x => (x.1, x.2.2)) = F.map fun x => (x.1, x.2.2)) : Rep os R F' S L := by
  have ev : ∀ n, (valG F' n).map (·.2) = (valG F n).map (·.2) := fun n => by
    rw [← valG_map (fun b : Addr × List (Addr × List V) => b.2), ← valG_map (fun b : Addr × List (Addr × List V) => b.2), e]
  have some_ : ∀ n rs, (∃ q, valG F' n = some (q, rs)) ↔ ∃ q, valG F n = some (q, rs) := fun n rs => by
    have z := ev n
    cases a : valG F' n with
    | none =>
      cases b : valG F n with
      | none => exact Iff.rfl
      | some y => rw [a, b] at z; cases z
    | some x =>
      cases b : valG F n with
      | none => rw [a, b] at z; cases z
      | some y =>
        rw [a, b] at z
        have z' : x.2 = y.2 := Option.some.inj z
        refine ⟨fun ⟨q, w⟩ => ⟨y.1, ?_⟩, fun ⟨q, w⟩ => ⟨x.1, ?_⟩⟩
        · cases w; rw [show rs = y.2 from z']
        · cases w; rw [show rs = x.2 from z'.symm]
  have sm : ∀ n, (valG F' n).isSome = (valG F n).isSome := fun n => by
    have z := congrArg Option.isSome (ev n)
    rw [Option.isSome_map, Option.isSome_map] at z
    exact z
  refine ⟨h.r, h.s, h.l, fun n row => ?_, fun n => by rw [sm, h.fn], fun n q rs e2 => ?_, h.rn, h.sn, h.ln, ?_⟩
  · rw [← h.f]
    refine ⟨fun ⟨q, rs, e2, w⟩ => ?_, fun ⟨q, rs, e2, w⟩ => ?_⟩
    · obtain ⟨q', e3⟩ := (some_ n rs).mp ⟨q, e2⟩
      exact ⟨q', rs, e3, w⟩
    · obtain ⟨q', e3⟩ := (some_ n rs).mpr ⟨q, e2⟩
      exact ⟨q', rs, e3, w⟩
  · obtain ⟨q', e3⟩ := (some_ n rs).mp ⟨q, e2⟩
    exact h.fs _ _ _ e3
  · have z := congrArg (List.map Prod.fst) e
    rw [List.map_map, List.map_map] at z
    have z2 : F'.map (·.1) = F.map (·.1) := z
    rw [z2]
    exact h.fd
end
end K1
namespace K1
open PySem PySem.Spec PyProof.Rows L2 Ow Tlz
abbrev s_law_is_integer : Stmt := topS 19
abbrev N_law_is_integer : List Str := ["actual"]
theorem sc_law_is_integer : FnScope N_law_is_integer ["actual"] (defScope s_law_is_integer) := ⟨rfl, rfl, rfl, by decide +kernel, rfl, by decide +kernel, by decide +kernel⟩
abbrev s_law_same : Stmt := topS 20
abbrev N_law_same : List Str := ["actual", "expected", "k"]
theorem sc_law_same : FnScope N_law_same ["actual", "expected"] (defScope s_law_same) := ⟨rfl, rfl, rfl, by decide +kernel, rfl, by decide +kernel, by decide +kernel⟩
/-! data of numbers, texts, truths, None, tuples and lists -/
mutual
def ist : PyData → Bool
  | .int _ => true
  | .str _ => true
  | .none => true
  | .bool _ => true
  | .tuple xs => decide (xs.length ≤ 1000) && ists xs
  | .list xs => decide (xs.length ≤ 1000) && ists xs
  | _ => false
def ists : List PyData → Bool
  | [] => true
  | x :: xs => ist x && ists xs
end
theorem ists_at : ∀ {xs : List PyData}, ists xs = true → ∀ {i : Nat} {d : PyData}, xs[i]? = some d → ist d = true
  | [], _, i, d, h => by simp at h
  | x :: xs, h, i, d, e => by
    rw [ists, Bool.and_eq_true] at h
    cases i with
    | zero =>
      have z : x = d := Option.some.inj e
      rw [← z]; exact h.1
    | succ i => exact ists_at h.2 (i := i) e
theorem ists_all : ∀ {xs : List PyData}, (∀ x ∈ xs, ist x = true) → ists xs = true
  | [], _ => by rw [ists]
  | x :: xs, h => by
    rw [ists, h x List.mem_cons_self, ists_all fun y m => h y (List.mem_cons_of_mem _ m)]
    rfl
theorem ist_tup {xs : List PyData} (l : xs.length ≤ 1000) (h : ∀ x ∈ xs, ist x = true) : ist (.tuple xs) = true := by
  rw [ist, decide_eq_true l, ists_all h]
  rfl
theorem ist_lst {xs : List PyData} (l : xs.length ≤ 1000) (h : ∀ x ∈ xs, ist x = true) : ist (.list xs) = true := by
  rw [ist, decide_eq_true l, ists_all h]
  rfl
mutual
theorem Dp.sm {K : PySem.W.Frag} {H H' : Hp} (t : Same H H') : ∀ (d : PyData) (v : V), Dp K H v d → Dp K H' v d
  | .none, _, .non => .non
  | .bool b, _, .bl _ => .bl b
  | .int i, _, .int _ => .int i
  | .str x, _, .str _ => .str x
  | .list xs, _, .lst s a => .lst (t.seq s) (DpAll.sm t xs _ a)
  | .tuple xs, _, .tup s a => .tup (Tk.same t _ _ s) (DpAll.sm t xs _ a)
theorem DpAll.sm {K : PySem.W.Frag} {H H' : Hp} (t : Same H H') : ∀ (ds : List PyData) (vs : List V), DpAll K H vs ds → DpAll K H' vs ds
  | [], _, .nil => .nil
  | d :: ds, _, .cons a b => .cons (Dp.sm t d _ a) (DpAll.sm t ds _ b)
end
theorem DpAll.len {K : PySem.W.Frag} {H : Hp} : ∀ {vs : List V} {ds : List PyData}, DpAll K H vs ds → vs.length = ds.length
  | _, _, .nil => rfl
  | _, _, .cons _ b => by rw [List.length_cons, List.length_cons, DpAll.len b]
theorem DpAll.get {K : PySem.W.Frag} {H : Hp} : ∀ {vs : List V} {ds : List PyData}, DpAll K H vs ds → ∀ {i : Nat} {d : PyData}, ds[i]? = some d → ∃ v, vs[i]? = some v ∧ Dp K H v d
  | _, _, .nil, i, d, h => by simp at h
  | _, _, .cons a b, 0, d, h => by
    have e := Option.some.inj h
    subst e
    exact ⟨_, rfl, a⟩
  | _, _, .cons a b, i + 1, d, h => DpAll.get b (i := i) h
theorem depth_at : ∀ {xs : List PyData} {n : Nat}, PyData.depthAll xs ≤ n → ∀ {i : Nat} {d : PyData}, xs[i]? = some d → d.depth ≤ n
  | [], _, _, i, d, h => by simp at h
  | x :: xs, n, h, i, d, e => by
    rw [PyData.depthAll] at h
    cases i with
    | zero =>
      have z : x = d := Option.some.inj e
      rw [← z]; exact Nat.le_trans (Nat.le_max_left _ _) h
    | succ i => exact depth_at (Nat.le_trans (Nat.le_max_right _ _) h) (i := i) e
def spIsInt : Sp := fun vs H Q _ => ∃ i : Int, vs = [.int i] ∧ Q (.bl true) H
/-- two equal data, less than n deep -/
def spSm (K : PySem.W.Frag) : Nat → Sp
  | 0 => fun _ _ _ _ => False
  | n + 1 => fun vs H Q _ => ∃ (x y : V) (d : PyData), vs = [x, y] ∧ Dp K H x d ∧ Dp K H y d ∧ ist d = true ∧ d.depth ≤ n ∧ Mak H Q fun z _ => z = .bl true
theorem lstT {K : PySem.W.Frag} {H : Hp} {a : Addr} {xs : List V} (h : SqL K H a xs) : TyX K H (.ref a) (.type "list") := by
  rcases h with (h | ⟨o, h⟩) | ⟨o, its, n, hk, hc, _⟩
  · exact .base (.lst h)
  · exact .base (.frz h)
  · exact .kList hk hc
theorem tupT2 {K : PySem.W.Frag} {H : Hp} {a : Addr} {xs : List V} (h : SqT K H a xs) : TyX K H (.ref a) (.type "tuple") := by
  rcases h with (h | ⟨o, h⟩) | ⟨o, its, n, hk, hc, _⟩
  · exact .base (.tup h)
  · exact .fTuple h
  · exact .kTuple hk hc
theorem kitI {K : PySem.W.Frag} : PySem.W.kitAny K (.type "int") [.type "list", .type "tuple"] = some false :=
  kitAny_cons (b := false) (kit_ty (by decide +kernel)) (fun _ => kitAny_cons (b := false) (kit_ty (by decide +kernel)) (fun _ => rfl) (fun h => Bool.noConfusion h)) (fun h => Bool.noConfusion h)
theorem kitS {K : PySem.W.Frag} : PySem.W.kitAny K (.type "str") [.type "list", .type "tuple"] = some false :=
  kitAny_cons (b := false) (kit_ty (by decide +kernel)) (fun _ => kitAny_cons (b := false) (kit_ty (by decide +kernel)) (fun _ => rfl) (fun h => Bool.noConfusion h)) (fun h => Bool.noConfusion h)
theorem kitN {K : PySem.W.Frag} : PySem.W.kitAny K (.type "NoneType") [.type "list", .type "tuple"] = some false :=
  kitAny_cons (b := false) (kit_ty (by decide +kernel)) (fun _ => kitAny_cons (b := false) (kit_ty (by decide +kernel)) (fun _ => rfl) (fun h => Bool.noConfusion h)) (fun h => Bool.noConfusion h)
theorem kitB {K : PySem.W.Frag} : PySem.W.kitAny K (.type "bool") [.type "list", .type "tuple"] = some false :=
  kitAny_cons (b := false) (kit_ty (by decide +kernel)) (fun _ => kitAny_cons (b := false) (kit_ty (by decide +kernel)) (fun _ => rfl) (fun h => Bool.noConfusion h)) (fun h => Bool.noConfusion h)
theorem kitL {K : PySem.W.Frag} : PySem.W.kitAny K (.type "list") [.type "list", .type "tuple"] = some true :=
  kitAny_cons (b := true) (kit_ty (by decide +kernel)) (fun h => Bool.noConfusion h) (fun _ => rfl)
theorem kitT {K : PySem.W.Frag} : PySem.W.kitAny K (.type "tuple") [.type "list", .type "tuple"] = some true :=
  kitAny_cons (b := false) (kit_ty (by decide +kernel)) (fun _ => kitAny_cons (b := true) (kit_ty (by decide +kernel)) (fun h => Bool.noConfusion h) (fun _ => rfl)) (fun h => Bool.noConfusion h)
section
variable {P : Program} {w : World} {K : PySem.W.Frag} {mg : Str → Option Value} {base : Heap}
theorem ok_isint {f : Addr} {fd : FuncData} (F : Fun K "_law_is_integer" "_law_is_integer" s_law_is_integer f fd) (T : Bl mg) :
    FnOk P w K mg base CX0 1 f fd ["actual"] spIsInt := by
  refine F.ok sc_law_is_integer (fun vs H Q E h => ?_) (fun cdv A outer s0 H vs Q E hr h => ?_)
  · obtain ⟨i, rfl, _⟩ := h
    rfl
  · obtain ⟨i, rfl, q⟩ := h
    refine ⟨_, (pss_one (ps_ret (pe_and (pe_callB call_isi (by rfl) T.isinstance (by decide +kernel) (pa_cons (pv 0) (pa_cons (pe_ty "int" (by rfl) T.int (by decide +kernel)) pa_nil))) (pe_one (pe_not (pe_callB call_isi (by rfl) T.isinstance (by decide +kernel) (pa_cons (pv 0) (pa_cons (pe_ty "bool" (by rfl) T.bool (by decide +kernel)) pa_nil)))))))), ?_⟩
    refine ⟨_, rfl, _, _, .type "int", .type "int", true, rfl, .ty _, .base (.int i), kit_ty (by decide +kernel), ?_⟩
    refine ⟨_, rfl, iteT ?_⟩
    refine ⟨_, rfl, _, _, .type "int", .type "bool", false, rfl, .ty _, .base (.int i), kit_ty (by decide +kernel), ?_⟩
    exact ⟨_, rfl, q⟩
theorem ok_smZ {f : Addr} {fd : FuncData} (F : Fun K "_law_same" "_law_same" s_law_same f fd) : FnOk P w K mg base CX0 1 f fd ["actual", "expected"] (spSm K 0) :=
  F.ok sc_law_same (fun vs H Q E h => h.elim) (fun cdv A outer s0 H vs Q E hr h => h.elim)
theorem ok_sm {f : Addr} {fd : FuncData} (F : Fun K "_law_same" "_law_same" s_law_same f fd) (T : Bl mg) {n : Nat}
    (D_law_is_integer : Kn P w K mg base 1 "_law_is_integer" ["actual"] spIsInt)
    (D_law_same : Kn P w K mg base (n + 1) "_law_same" ["actual", "expected"] (spSm K n)) :
    FnOk P w K mg base CX0 (n + 2) f fd ["actual", "expected"] (spSm K (n + 1)) := by
  refine F.ok sc_law_same (fun vs H Q E h => ?_) (fun cdv A outer s0 H vs Q E hr h => ?_)
  · obtain ⟨x, y, d, rfl, _⟩ := h
    rfl
  · obtain ⟨x, y, d, rfl, hx, hy, hi, hd, q⟩ := h
    refine ⟨_, (pss_cons (ps_if (pt_val (pe_callB call_isiT (by rfl) T.isinstance (by decide +kernel) (pa_cons (pv 1) (pa_cons (pe_tup (pa_cons (pe_ty "list" (by rfl) T.list (by decide +kernel)) (pa_cons (pe_ty "tuple" (by rfl) T.tuple (by decide +kernel)) pa_nil))) pa_nil)))) (pss_cons (ps_if (PW.pt (pw_or (pt_cmpR op_ne (pe_callB call_isi (by rfl) T.isinstance (by decide +kernel) (pa_cons (pv 1) (pa_cons (pe_ty "list" (by rfl) T.list (by decide +kernel)) pa_nil))) (pe_callB call_isi (by rfl) T.isinstance (by decide +kernel) (pa_cons (pv 0) (pa_cons (pe_ty "list" (by rfl) T.list (by decide +kernel)) pa_nil))) (nomark _)) (pw_or1 (pt_cmpR op_ne (pe_callB call_isi (by rfl) T.isinstance (by decide +kernel) (pa_cons (pv 1) (pa_cons (pe_ty "tuple" (by rfl) T.tuple (by decide +kernel)) pa_nil))) (pe_callB call_isi (by rfl) T.isinstance (by decide +kernel) (pa_cons (pv 0) (pa_cons (pe_ty "tuple" (by rfl) T.tuple (by decide +kernel)) pa_nil))) (nomark _))))) (pss_one (ps_ret pe_bl)) pss_nil)
      (pss_cons (ps_if (pt_cmpR op_ne (pe_callB call_len_seq (by rfl) T.len PySem.boot_len (pa_cons (pv 0) pa_nil)) (pe_callB call_len_seq (by rfl) T.len PySem.boot_len (pa_cons (pv 1) pa_nil)) (nomark _)) (pss_one (ps_ret pe_bl)) pss_nil)
      (pss_cons (ps_for PassesOwn.never rfl (pi_range1 (by rfl) T.range (pa_cons (pe_callB call_len_seq (by rfl) T.len PySem.boot_len (pa_cons (pv 1) pa_nil)) pa_nil)) (pg_name (i := 2) sc_law_same.nd rfl (.inl rfl)) (pss_one (ps_if (pt_not (pt_val (pe_kn D_law_same hr (pa_cons (pe_ix ix_seq (pv 0) (pv 2) (fun _ _ => rfl)) (pa_cons (pe_ix ix_seq (pv 1) (pv 2) (fun _ _ => rfl)) pa_nil)) (Nat.le_refl _)))) (pss_one (ps_ret pe_bl)) pss_nil)))
      (pss_one (ps_ret pe_bl))))) pss_nil)
      (pss_cons (ps_if (pt_cmpR op_isN (pv 1) pe_non (nomark _)) (pss_one (ps_ret (pe_cmpR op_isN (pv 0) pe_non (nomark _)))) pss_nil)
      (pss_cons (ps_if (pt_val (pe_callB call_isi (by rfl) T.isinstance (by decide +kernel) (pa_cons (pv 1) (pa_cons (pe_ty "bool" (by rfl) T.bool (by decide +kernel)) pa_nil)))) (pss_one (ps_ret (pe_and (pe_callB call_isi (by rfl) T.isinstance (by decide +kernel) (pa_cons (pv 0) (pa_cons (pe_ty "bool" (by rfl) T.bool (by decide +kernel)) pa_nil))) (pe_one (pe_cmpR op_eq (pv 0) (pv 1) (nomark _)))))) pss_nil)
      (pss_cons (ps_if (pt_val (pe_callB call_isi (by rfl) T.isinstance (by decide +kernel) (pa_cons (pv 1) (pa_cons (pe_ty "int" (by rfl) T.int (by decide +kernel)) pa_nil)))) (pss_one (ps_ret (pe_and (pe_kn D_law_is_integer hr (pa_cons (pv 0) pa_nil) (by omega)) (pe_one (pe_cmpR op_eq (pv 0) (pv 1) (nomark _)))))) pss_nil)
      (pss_one (ps_ret (pe_and (pe_callB call_isi (by rfl) T.isinstance (by decide +kernel) (pa_cons (pv 0) (pa_cons (pe_ty "str" (by rfl) T.str (by decide +kernel)) pa_nil))) (pe_one (pe_cmpR op_eq (pv 0) (pv 1) (nomark _)))))))))), ?_⟩
    cases hy with
    | int i =>
      cases hx
      refine ⟨_, rfl, sz 2, fun t nt => ?_⟩
      refine ⟨_, _, _, _, _, false, rfl, upd_same, .cons (.ty "list") (.cons (.ty "tuple") .nil), .base (.int i), kitI, ?_⟩
      refine ⟨_, rfl, iteF ?_⟩
      refine ⟨_, rfl, rfl, _, rfl, ite2 (fun e => absurd e (by simp)) (fun _ => ?_)⟩
      refine ⟨_, rfl, _, _, .type "int", .type "bool", false, rfl, .ty _, .base (.int i), kit_ty (by decide +kernel), ?_⟩
      refine ⟨_, rfl, iteF ?_⟩
      refine ⟨_, rfl, _, _, .type "int", .type "int", true, rfl, .ty _, .base (.int i), kit_ty (by decide +kernel), ?_⟩
      refine ⟨_, rfl, iteT ?_⟩
      refine ⟨_, rfl, i, rfl, _, rfl, iteT ?_⟩
      exact ⟨_, rfl, _, rfl, rfl, q _ _ (by rw [decide_eq_true rfl]) (Same.new nt)⟩
    | str z =>
      cases hx
      refine ⟨_, rfl, sz 2, fun t nt => ?_⟩
      refine ⟨_, _, _, _, _, false, rfl, upd_same, .cons (.ty "list") (.cons (.ty "tuple") .nil), .base (.str z), kitS, ?_⟩
      refine ⟨_, rfl, iteF ?_⟩
      refine ⟨_, rfl, rfl, _, rfl, ite2 (fun e => absurd e (by simp)) (fun _ => ?_)⟩
      refine ⟨_, rfl, _, _, .type "str", .type "bool", false, rfl, .ty _, .base (.str z), kit_ty (by decide +kernel), ?_⟩
      refine ⟨_, rfl, iteF ?_⟩
      refine ⟨_, rfl, _, _, .type "str", .type "int", false, rfl, .ty _, .base (.str z), kit_ty (by decide +kernel), ?_⟩
      refine ⟨_, rfl, iteF ?_⟩
      refine ⟨_, rfl, _, _, .type "str", .type "str", true, rfl, .ty _, .base (.str z), kit_ty (by decide +kernel), ?_⟩
      refine ⟨_, rfl, iteT ?_⟩
      exact ⟨_, rfl, _, rfl, rfl, q _ _ (by rw [decide_eq_true rfl]) (Same.new nt)⟩
    | bl b =>
      cases hx
      refine ⟨_, rfl, sz 2, fun t nt => ?_⟩
      refine ⟨_, _, _, _, _, false, rfl, upd_same, .cons (.ty "list") (.cons (.ty "tuple") .nil), .base (.bl b), kitB, ?_⟩
      refine ⟨_, rfl, iteF ?_⟩
      refine ⟨_, rfl, rfl, _, rfl, ite2 (fun e => absurd e (by simp)) (fun _ => ?_)⟩
      refine ⟨_, rfl, _, _, .type "bool", .type "bool", true, rfl, .ty _, .base (.bl b), kit_ty (by decide +kernel), ?_⟩
      refine ⟨_, rfl, iteT ?_⟩
      refine ⟨_, rfl, _, _, .type "bool", .type "bool", true, rfl, .ty _, .base (.bl b), kit_ty (by decide +kernel), ?_⟩
      refine ⟨_, rfl, iteT ?_⟩
      exact ⟨_, rfl, _, rfl, rfl, q _ _ (by rw [decide_eq_true rfl]) (Same.new nt)⟩
    | non =>
      cases hx
      refine ⟨_, rfl, sz 2, fun t nt => ?_⟩
      refine ⟨_, _, _, _, _, false, rfl, upd_same, .cons (.ty "list") (.cons (.ty "tuple") .nil), .base (.non), kitN, ?_⟩
      refine ⟨_, rfl, iteF ?_⟩
      refine ⟨_, rfl, rfl, _, rfl, ite2 (fun _ => ?_) (fun e => absurd (decide_eq_true rfl) e)⟩
      exact ⟨_, rfl, rfl, q _ _ (by rw [decide_eq_true rfl]) (Same.new nt)⟩
    | @tup b ys ds sy ay =>
      cases hx with
      | @tup a xs _ sx ax =>
        have lx := DpAll.len ax
        have ly := DpAll.len ay
        refine ⟨_, rfl, sz 2, fun t nt => ?_⟩
        have s1 := Same.new (o := .tup [.ty "list", .ty "tuple"]) nt
        have t1 : Tk K H _ := Tk.same s1
        have tx := tupT2 (K := K) (t1 _ _ sx)
        have ty := tupT2 (K := K) (t1 _ _ sy)
        refine ⟨_, _, _, _, _, true, rfl, upd_same, .cons (.ty "list") (.cons (.ty "tuple") .nil), ty, kitT, ?_⟩
        refine ⟨_, rfl, iteT ?_⟩
        refine ⟨_, rfl, _, _, .type "tuple", .type "list", false, rfl, .ty _, ty, kit_ty (by decide +kernel), ?_⟩
        refine ⟨_, rfl, _, _, .type "tuple", .type "list", false, rfl, .ty _, tx, kit_ty (by decide +kernel), ?_⟩
        refine ⟨rfl, _, rfl, ?_⟩
        refine iteF ?_
        refine ⟨_, rfl, _, _, .type "tuple", .type "tuple", true, rfl, .ty _, ty, kit_ty (by decide +kernel), ?_⟩
        refine ⟨_, rfl, _, _, .type "tuple", .type "tuple", true, rfl, .ty _, tx, kit_ty (by decide +kernel), ?_⟩
        refine ⟨rfl, _, rfl, ?_⟩
        refine iteF ?_
        refine ⟨_, rfl, a, xs, rfl, .inr (t1 _ _ sx), _, rfl, b, ys, rfl, .inr (t1 _ _ sy), rfl, _, rfl, ?_⟩
        rw [lx, ly]
        refine iteNS rfl ?_
        have bd : ds.length ≤ 1000 := by
          rw [K1.ist, Bool.and_eq_true] at hi
          exact of_decide_eq_true hi.1
        refine ⟨_, rfl, b, ys, rfl, .inr (t1 _ _ sy), (ys.length : Int), rfl, by omega, by omega, for_range (lo := 0) (n := (ys.length : Int).toNat) (fun i σ H4 => ∃ y2 : Option V, σ = [some (.ref a), some (.ref b), y2] ∧ Same H H4)
          ⟨none, rfl, s1⟩ (fun i σ H4 hi4 hP => ?_) (fun σ H4 hP => ?_)⟩
        · obtain ⟨y2, rfl, sm⟩ := hP
          have il : i < ds.length := by omega
          have ed := List.getElem?_eq_getElem il
          obtain ⟨u, eu, du⟩ := DpAll.get ax ed
          obtain ⟨v, ev, dv⟩ := DpAll.get ay ed
          have t4 : Tk K H H4 := Tk.same sm
          have id : ist ds[i] = true := ists_at (by rw [K1.ist, Bool.and_eq_true] at hi; exact hi.2) ed
          rw [PyData.depth] at hd
          have dd : PyData.depthAll ds ≤ n - 1 := by omega
          have d2 := depth_at dd ed
          cases n with
          | zero => omega
          | succ n =>
          refine ⟨_, rfl, _, rfl, (.inr (.inl ⟨a, xs, _, u, rfl, rfl, (t4 _ _ sx), at_of (j := i) (by omega) eu, _, rfl, _, rfl, (.inr (.inl ⟨b, ys, _, v, rfl, rfl, (t4 _ _ sy), at_of (j := i) (by omega) ev, u, v, ds[i], rfl,
            Dp.sm sm _ _ du, Dp.sm sm _ _ dv, id, d2, ?_⟩))⟩))⟩
          rintro z H5 rfl s5
          exact ⟨_, rfl, iteF ⟨_, rfl, sm.trans s5⟩⟩
        · obtain ⟨y2, rfl, sm⟩ := hP
          exact q _ _ rfl sm
    | @lst b ys ds sy ay =>
      cases hx with
      | @lst a xs _ sx ax =>
        have lx := DpAll.len ax
        have ly := DpAll.len ay
        refine ⟨_, rfl, sz 2, fun t nt => ?_⟩
        have s1 := Same.new (o := .tup [.ty "list", .ty "tuple"]) nt
        have t1 : Tk K H _ := Tk.same s1
        have tx := lstT (K := K) (s1.seq sx)
        have ty := lstT (K := K) (s1.seq sy)
        refine ⟨_, _, _, _, _, true, rfl, upd_same, .cons (.ty "list") (.cons (.ty "tuple") .nil), ty, kitL, ?_⟩
        refine ⟨_, rfl, iteT ?_⟩
        refine ⟨_, rfl, _, _, .type "list", .type "list", true, rfl, .ty _, ty, kit_ty (by decide +kernel), ?_⟩
        refine ⟨_, rfl, _, _, .type "list", .type "list", true, rfl, .ty _, tx, kit_ty (by decide +kernel), ?_⟩
        refine ⟨rfl, _, rfl, ?_⟩
        refine iteF ?_
        refine ⟨_, rfl, _, _, .type "list", .type "tuple", false, rfl, .ty _, ty, kit_ty (by decide +kernel), ?_⟩
        refine ⟨_, rfl, _, _, .type "list", .type "tuple", false, rfl, .ty _, tx, kit_ty (by decide +kernel), ?_⟩
        refine ⟨rfl, _, rfl, ?_⟩
        refine iteF ?_
        refine ⟨_, rfl, a, xs, rfl, .inl (s1.seq sx), _, rfl, b, ys, rfl, .inl (s1.seq sy), rfl, _, rfl, ?_⟩
        rw [lx, ly]
        refine iteNS rfl ?_
        have bd : ds.length ≤ 1000 := by
          rw [K1.ist, Bool.and_eq_true] at hi
          exact of_decide_eq_true hi.1
        refine ⟨_, rfl, b, ys, rfl, .inl (s1.seq sy), (ys.length : Int), rfl, by omega, by omega, for_range (lo := 0) (n := (ys.length : Int).toNat) (fun i σ H4 => ∃ y2 : Option V, σ = [some (.ref a), some (.ref b), y2] ∧ Same H H4)
          ⟨none, rfl, s1⟩ (fun i σ H4 hi4 hP => ?_) (fun σ H4 hP => ?_)⟩
        · obtain ⟨y2, rfl, sm⟩ := hP
          have il : i < ds.length := by omega
          have ed := List.getElem?_eq_getElem il
          obtain ⟨u, eu, du⟩ := DpAll.get ax ed
          obtain ⟨v, ev, dv⟩ := DpAll.get ay ed
          have t4 : Tk K H H4 := Tk.same sm
          have id : ist ds[i] = true := ists_at (by rw [K1.ist, Bool.and_eq_true] at hi; exact hi.2) ed
          rw [PyData.depth] at hd
          have dd : PyData.depthAll ds ≤ n - 1 := by omega
          have d2 := depth_at dd ed
          cases n with
          | zero => omega
          | succ n =>
          refine ⟨_, rfl, _, rfl, (.inl ⟨a, xs, _, u, rfl, rfl, (sm.seq sx), at_of (j := i) (by omega) eu, _, rfl, _, rfl, (.inl ⟨b, ys, _, v, rfl, rfl, (sm.seq sy), at_of (j := i) (by omega) ev, u, v, ds[i], rfl,
            Dp.sm sm _ _ du, Dp.sm sm _ _ dv, id, d2, ?_⟩)⟩)⟩
          rintro z H5 rfl s5
          exact ⟨_, rfl, iteF ⟨_, rfl, sm.trans s5⟩⟩
        · obtain ⟨y2, rfl, sm⟩ := hP
          exact q _ _ rfl sm
    all_goals exact absurd hi (by simp [K1.ist])
end
end K1

namespace K1
open PySem PySem.Spec PyProof.Rows L2 Ow Tlz
theorem rising_pw : ∀ (r : List Str) (p : Str), risingS p r = true → (∀ x ∈ r, ¬ x.cps.toList < p.cps.toList) ∧ r.Pairwise fun a b => ¬ b.cps.toList < a.cps.toList
  | [], p, _ => ⟨(fun _ m => nomatch m), .nil⟩
  | x :: r, p, h => by
    rw [risingS, Bool.and_eq_true, ltCps_eq] at h
    have h1 : ¬ x.cps.toList < p.cps.toList := fun z => by
      rw [decide_eq_true z] at h
      exact absurd h.1 (by decide)
    obtain ⟨a, b⟩ := rising_pw r x h.2
    refine ⟨fun y m => ?_, List.pairwise_cons.mpr ⟨fun y m => a y m, b⟩⟩
    rcases List.mem_cons.mp m with rfl | m
    · exact h1
    · intro z
      have z1 := a y m
      have z2 := List.le_trans (show p.cps.toList ≤ x.cps.toList from h1) (show x.cps.toList ≤ y.cps.toList from z1)
      exact z2 z
theorem sortedS_pw : ∀ {xs : List Str}, sortedS xs = true → xs.Pairwise fun a b => ¬ b.cps.toList < a.cps.toList
  | [], _ => .nil
  | x :: r, h => List.pairwise_cons.mpr (rising_pw r x h)
theorem sortedS_one {xs ys : List Str} (hx : sortedS xs = true) (hy : sortedS ys = true) (p : xs.Perm ys) : xs = ys :=
  List.Perm.eq_of_pairwise (le := fun a b => ¬ b.cps.toList < a.cps.toList) (fun a b _ _ h1 h2 => by
    rcases str_tot a b with h | h | h
    · exact absurd h h2
    · exact h
    · exact absurd h h1) (sortedS_pw hx) (sortedS_pw hy) p
/-! places -/
theorem kvR_val (R : Tb) (n : Str) : valV (kvR R) (Sum.inr n) = (valG R n).map fun b => V.ref b.1 := kvG_val _ _ _
theorem kvR_keys (R : Tb) : (kvR R).map (·.1) = (R.map (·.1)).map Sum.inr := by
  unfold kvR kvG
  rw [List.map_map, List.map_map]
  rfl
theorem mem_val {R : Tb} {n : Str} (h : n ∈ R.map (·.1)) : ∃ q c, valG R n = some (q, c) ∧ (n, q, c) ∈ R := by
  cases e : valG R n with
  | none =>
    obtain ⟨x, mx, ex⟩ := List.mem_map.mp h
    exact absurd ex (valG_none e x mx)
  | some b => exact ⟨b.1, b.2, rfl, valG_mem e⟩
theorem dget_n {H : Hp} {d : Addr} {R : Tb} {n : Str} {q : Addr} {c : List V} (h : Rd H d (.dK (kvR R))) (e : valG R n = some (q, c)) : DGet H d (.str n) (some (.ref q)) := by
  refine .inl ⟨kvR R, Sum.inr n, h, rfl, ?_⟩
  rw [kvR_val, e]
  rfl
theorem ix_tup_K {X : Cx} {K : PySem.W.Frag} (e : X.K = K) : IxR X (rIxT K) := by
  subst e
  exact ix_tup
theorem pe_fld_K {X : Cx} {K : PySem.W.Frag} (e : X.K = K) {o : Expr} {ta : TE} {f : Str} {pos : Pos} (ha : PE X o ta) (hb : attributeBase o f X.env (eval o X.env) = eval o X.env) : PE X (.Attribute o f pos) (tFld K ta f) := by
  subst e
  exact pe_fld ha hb
theorem Same.lock {d : Addr} {od : Obj} {u : HO} {H H' : Hp} (hd : H d = some u) (s : Same (upd H d (.frz od u)) H') : Same H (upd H' d u) := fun b o e => by
  by_cases w : b = d
  · subst w
    rw [upd_same, ← hd, e]
  · rw [upd_ne w]
    exact s b o (by rw [upd_ne w]; exact e)
theorem kvR_at {R : Tb} {i : Nat} {k : Key} {v : V} (h : (kvR R)[i]? = some (k, v)) : ∃ e, R[i]? = some e ∧ k = Sum.inr e.1 ∧ v = .ref e.2.1 := by
  unfold kvR kvG at h
  rw [List.getElem?_map] at h
  cases z : R[i]? with
  | none => rw [z] at h; cases h
  | some e =>
    rw [z] at h
    have := Option.some.inj h
    exact ⟨e, rfl, (congrArg Prod.fst this).symm, (congrArg Prod.snd this).symm⟩
theorem ix_list_K {X : Cx} {K : PySem.W.Frag} (e : X.K = K) : IxR X (rIxL K) := by
  subst e
  exact ix_list
theorem op_catA_K {X : Cx} {K : PySem.W.Frag} (e : X.K = K) : OpR X (binaryOp .Add) (rCatA K) := by
  subst e
  exact op_catA
theorem kv_names (R : Tb) : (kvR R).map (fun kv => kV kv.1) = (R.map (·.1)).map V.str := by
  unfold kvR kvG
  rw [List.map_map, List.map_map]
  rfl
theorem kvF_names (F : Fb) : (kvF F).map (fun kv => kV kv.1) = (F.map (·.1)).map V.str := by
  unfold kvF kvG
  rw [List.map_map, List.map_map]
  rfl
theorem strs_get {ys : List Str} {i : Nat} {y : V} (h : (ys.map V.str)[i]? = some y) : ∃ n, ys[i]? = some n ∧ y = .str n := by
  rw [List.getElem?_map] at h
  cases e : ys[i]? with
  | none => rw [e] at h; cases h
  | some t => rw [e] at h; exact ⟨t, rfl, (Option.some.inj h).symm⟩
theorem take_snoc' {α : Type} {xs : List α} {i : Nat} {x : α} (h : xs[i]? = some x) : xs.take (i + 1) = xs.take i ++ [x] := by
  rw [List.take_add_one, h]
  rfl
theorem dgetF {H : Hp} {d : Addr} {F : Fb} {n : Str} {q : Addr} {c : List (Addr × List V)} (h : Rd H d (.dK (kvF F))) (e : valG F n = some (q, c)) : DGet H d (.str n) (some (.ref q)) := by
  refine .inl ⟨kvF F, Sum.inr n, h, rfl, ?_⟩
  rw [kvF_val, e]
  rfl
theorem Rng.tk {K : PySem.W.Frag} {d p : Addr} {H H' : Hp} (r : Rng d H p) (g : Gw p H H') : Tk K H H' := by
  obtain ⟨ds, k, h, _⟩ := r
  exact Tk.gw h g
theorem cut_take (xs : List V) {v : Int} (h : 0 ≤ v) : cutV xs none (some v) = xs.take v.toNat := by
  unfold cutV
  have e : v = ((v.toNat : Nat) : Int) := by omega
  have i2 : HT.sIx xs.length xs.length (some v) = min v.toNat xs.length := by
    have := HT.sIx_nat xs.length xs.length v.toNat
    rw [← e] at this
    exact this
  rw [HT.sIx_none, i2, List.drop_zero, Nat.sub_zero]
  by_cases hv : v.toNat ≤ xs.length
  · rw [Nat.min_eq_left hv]
  · rw [Nat.min_eq_right (by omega), List.take_length, List.take_of_length_le (by omega)]
def rTupK (K : PySem.W.Frag) : List V → Hp → VK → Prop := fun xs H Q => ∃ p ys, xs = [V.ref p] ∧ ((SqL K H p ys ∧ ∀ l, H l = none → Q (.ref l) (upd H l (.tup ys))) ∨ (SqT K H p ys ∧ Q (.ref p) H))
theorem call_tuple_K {X : Cx} {K : PySem.W.Frag} (e : X.K = K) : CallR X (.type "tuple") (rTupK K) := by
  subst e
  exact call_tuple_of
theorem hu65 {k : Nat} {A : Around} (hr : Room k A) : A.units + 65 < cLine := by have := hr.un; omega
end K1
namespace K1
open PySem PySem.Spec PyProof.Rows L2 Ow Tlz
/-! data that the law compares -/
structure Gd (k : Nat) (x : PyData) : Prop where
  i : ist x = true
  d : PyData.depth x ≤ k
  c : PyData.canLay0 x = true
theorem Gd.up {k j : Nat} {d : PyData} (h : Gd k d) (l : k ≤ j) : Gd j d := ⟨h.i, Nat.le_trans h.d l, h.c⟩
theorem Gd.tup {k : Nat} {ds : List PyData} (l : ds.length ≤ 1000) (h : ∀ d ∈ ds, Gd k d) : Gd (k + 1) (.tuple ds) := by
  refine ⟨ist_tup l fun x m => (h x m).i, ?_, ?_⟩
  · rw [PyData.depth]
    have := depthAll_le fun x m => (h x m).d
    omega
  · rw [PyData.canLay0]
    exact layAll fun x m => (h x m).c
theorem Gd.lst {k : Nat} {ds : List PyData} (l : ds.length ≤ 1000) (h : ∀ d ∈ ds, Gd k d) : Gd (k + 1) (.list ds) := by
  refine ⟨ist_lst l fun x m => (h x m).i, ?_, ?_⟩
  · rw [PyData.depth]
    have := depthAll_le fun x m => (h x m).d
    omega
  · rw [PyData.canLay0]
    exact layAll fun x m => (h x m).c
theorem Gd.int (i : Int) : Gd 0 (.int i) := ⟨by rw [ist], by simp [PyData.depth], by simp [PyData.canLay0]⟩
theorem Gd.bool (i : Bool) : Gd 0 (.bool i) := ⟨by rw [ist], by simp [PyData.depth], by simp [PyData.canLay0]⟩
theorem Gd.str {z : Str} (p : Pr z) : Gd 0 (.str z) := ⟨by rw [ist], by simp [PyData.depth], p.ok⟩
theorem Gd.sc {v : V} (h : Scal v) : Gd 0 (scD v) := by
  rcases h with ⟨i, rfl, _⟩ | ⟨z, rfl, p, _⟩
  · exact Gd.int i
  · exact Gd.str p
theorem Gd.row {xs : List V} (h : ∀ x ∈ xs, Scal x) (l : xs.length ≤ 1000) : Gd 1 (rowD xs) := by
  refine Gd.tup (by rw [List.length_map]; exact l) fun d m => ?_
  obtain ⟨x, mx, rfl⟩ := List.mem_map.mp m
  exact Gd.sc (h x mx)
theorem Gd.shaped {k : Nat} {d : PyData} (h : Gd k d) (l : k ≤ 60) : SeqAt.shaped d = true := shaped_of h.c h.d l
/-- some values with data -/
def CD (K : PySem.W.Frag) (H : Hp) (c : List V) : Prop := ∃ ds, DpAll K H c ds ∧ (∀ d ∈ ds, Gd 1 d) ∧ noLs ds = true
theorem CD.tk {K : PySem.W.Frag} {H H' : Hp} {c : List V} (t : Tk K H H') (h : CD K H c) : CD K H' c := by
  obtain ⟨ds, a, b, n⟩ := h
  exact ⟨ds, DpAll.tk t ds _ n a, b, n⟩
theorem CD.same {K : PySem.W.Frag} {H H' : Hp} {c : List V} (s : Same H H') (h : CD K H c) : CD K H' c := h.tk (Tk.same s)
theorem CD.cons {K : PySem.W.Frag} {H : Hp} {v : V} {c : List V} {d : PyData} (a : Dp K H v d) (g : Gd 1 d) (n : noL d = true) (h : CD K H c) : CD K H (v :: c) := by
  obtain ⟨ds, b, e, m⟩ := h
  refine ⟨d :: ds, .cons a b, fun x m => ?_, by rw [noLs, n, m]; rfl⟩
  rcases List.mem_cons.mp m with z | z
  · rw [z]; exact g
  · exact e x z
theorem CD.nil {K : PySem.W.Frag} {H : Hp} : CD K H [] := ⟨[], .nil, (fun _ m => by cases m), by rw [noLs]⟩
theorem CD.int {K : PySem.W.Frag} {H : Hp} {i : Int} {c : List V} (h : CD K H c) : CD K H (.int i :: c) := CD.cons (.int i) ((Gd.int i).up (by omega)) (by rw [noL] <;> simp) h
theorem CD.str {K : PySem.W.Frag} {H : Hp} {z : Str} {c : List V} (p : Pr z) (h : CD K H c) : CD K H (.str z :: c) := CD.cons (.str z) ((Gd.str p).up (by omega)) (by rw [noL] <;> simp) h
/-- texts -/
theorem strs_dp {K : PySem.W.Frag} {H : Hp} : ∀ {xs : List V}, (∀ x ∈ xs, ∃ z, x = .str z ∧ Pr z) → ∃ ds, DpAll K H xs ds ∧ (∀ d ∈ ds, Gd 0 d) ∧ noLs ds = true
  | [], _ => ⟨[], .nil, (fun _ m => by cases m), by rw [noLs]⟩
  | x :: xs, h => by
    obtain ⟨ds, a, b, n⟩ := strs_dp (K := K) (H := H) (xs := xs) fun y m => h y (List.mem_cons_of_mem _ m)
    obtain ⟨z, rfl, p⟩ := h x List.mem_cons_self
    refine ⟨.str z :: ds, .cons (.str z) a, fun d m => ?_, by rw [noLs, n]; simp [noL]⟩
    rcases List.mem_cons.mp m with e | m
    · rw [e]; exact Gd.str p
    · exact b d m
theorem CD.strs {K : PySem.W.Frag} {H : Hp} {a : Addr} {xs c : List V} (h : SqT K H a xs) (hx : ∀ x ∈ xs, ∃ z, x = .str z ∧ Pr z) (l : xs.length ≤ 1000) (t : CD K H c) : CD K H (.ref a :: c) := by
  obtain ⟨ds, b, e, n⟩ := strs_dp (K := K) (H := H) hx
  exact CD.cons (.tup h b) (Gd.tup (by rw [← DpAll.len b]; exact l) e) (by rw [noL]; exact n) t
/-! items with data -/
def itn : It → Str
  | .rel n _ => n
  | .fact n _ _ => n
  | .str n _ => n
  | .lay n _ => n
def cnt : It → List V
  | .rel _ c => c
  | .fact _ _ _ => []
  | .str _ c => c
  | .lay _ v => [v]
def cln : It → Nat
  | .rel _ _ => 2
  | .fact _ _ _ => 0
  | .str _ _ => 4
  | .lay _ _ => 1
structure ItG (K : PySem.W.Frag) (H : Hp) (a : Addr) (i : It) : Prop where
  at_ : ItAt K H a i
  n : Pr (itn i)
  c : CD K H (cnt i)
  l : (cnt i).length = cln i
theorem ItG.tk {K : PySem.W.Frag} {H H' : Hp} {a : Addr} {i : It} (t : Tk K H H') (h : ItG K H a i) : ItG K H' a i := ⟨h.at_.tk t, h.n, h.c.tk t, h.l⟩
theorem ItG.same {K : PySem.W.Frag} {H H' : Hp} {a : Addr} {i : It} (s : Same H H') (h : ItG K H a i) : ItG K H' a i := ⟨h.at_.tk (Tk.same s), h.n, h.c.same s, h.l⟩
def irf (its : Its) : List V := its.map fun t => .ref t.1
def ItsG (K : PySem.W.Frag) (H : Hp) (its : Its) : Prop := ∀ t ∈ its, ItG K H t.1 t.2
theorem ItsG.tk {K : PySem.W.Frag} {H H' : Hp} {its : Its} (s : Tk K H H') (h : ItsG K H its) : ItsG K H' its := fun t m => (h t m).tk s
theorem ItsG.same {K : PySem.W.Frag} {H H' : Hp} {its : Its} (s : Same H H') (h : ItsG K H its) : ItsG K H' its := fun t m => (h t m).same s
theorem ItsG.sc {K : PySem.W.Frag} {H : Hp} {its : Its} (h : ItsG K H its) : ScI its := fun t m => by
  have g := (h t m).at_
  obtain ⟨a, i⟩ := t
  cases i with
  | fact n r row => exact g.2.2.1
  | rel n c => exact fun _ m => by cases m
  | str n c => exact fun _ m => by cases m
  | lay n v => exact fun _ m => by cases m
theorem irf_get {its : Its} {i : Nat} {x : V} (h : (irf its)[i]? = some x) : ∃ t, its[i]? = some t ∧ x = .ref t.1 := by
  unfold irf at h
  rw [List.getElem?_map] at h
  cases e : its[i]? with
  | none => rw [e] at h; cases h
  | some t => rw [e] at h; exact ⟨t, rfl, (Option.some.inj h).symm⟩
theorem irf_len (its : Its) : (irf its).length = its.length := by unfold irf; rw [List.length_map]
theorem irf_app (its jts : Its) : irf (its ++ jts) = irf its ++ irf jts := by unfold irf; rw [List.map_append]
theorem ItsG.app {K : PySem.W.Frag} {H : Hp} {its jts : Its} (h : ItsG K H its) (g : ItsG K H jts) : ItsG K H (its ++ jts) := fun t m => by
  rcases List.mem_append.mp m with m | m
  · exact h t m
  · exact g t m
theorem ItsG.one {K : PySem.W.Frag} {H : Hp} {t : Addr × It} (h : ItG K H t.1 t.2) : ItsG K H [t] := fun u m => by rw [List.mem_singleton.mp m]; exact h
/-- the data of an item: what its key and its content tell -/
theorem it_data {K : PySem.W.Frag} {H : Hp} {a b : Addr} {i j : It} (h : ItG K H a i) (g : ItG K H b j) (e : ier i = ier j) : ∃ d, Dp K H (.ref a) d ∧ Dp K H (.ref b) d ∧ Gd 2 d := by
  have pw : ∀ w : String, (w = "relation" ∨ w = "fact" ∨ w = "structure" ∨ w = "layout") → Pr (PySem.Str.ofString w) := fun w hw => by
    rcases hw with rfl | rfl | rfl | rfl <;> decide +kernel
  have two : ∀ {w n : Str} {ds : List PyData} {c : List V}, Pr w → Pr n → DpAll K H c ds → (∀ d ∈ ds, Gd 1 d) → c.length ≤ 10 → Gd 2 (.tuple (.str w :: .str n :: ds)) := fun {w n ds c} p1 p2 a h l => by
    have := DpAll.len a
    refine Gd.tup (k := 1) (by rw [List.length_cons, List.length_cons]; omega) fun d m => ?_
    rcases List.mem_cons.mp m with z | m
    · rw [z]; exact (Gd.str p1).up (by omega)
    · rcases List.mem_cons.mp m with z | m
      · rw [z]; exact (Gd.str p2).up (by omega)
      · exact h d m
  cases i with
  | rel n c =>
    cases j with
    | rel m c' =>
      have e1 : n = m := congrArg (fun x => x.2.1) e
      have e2 : c = c' := congrArg (fun x => x.2.2.2) e
      subst e1 e2
      obtain ⟨ds, hd, hg, _⟩ := h.c
      have hd' : DpAll K H c ds := hd
      exact ⟨_, .tup h.at_ (.cons (.str _) (.cons (.str _) hd')), .tup g.at_ (.cons (.str _) (.cons (.str _) hd')), two (pw "relation" (.inl rfl)) h.n hd' hg (by have := h.l; simp [cnt, cln] at this; omega)⟩
    | _ => exact absurd (congrArg (fun x => x.1) e) (by simp [ier])
  | str n c =>
    cases j with
    | str m c' =>
      have e1 : n = m := congrArg (fun x => x.2.1) e
      have e2 : c = c' := congrArg (fun x => x.2.2.2) e
      subst e1 e2
      obtain ⟨ds, hd, hg, _⟩ := h.c
      have hd' : DpAll K H c ds := hd
      exact ⟨_, .tup h.at_ (.cons (.str _) (.cons (.str _) hd')), .tup g.at_ (.cons (.str _) (.cons (.str _) hd')), two (pw "structure" (.inr (.inr (.inl rfl)))) h.n hd' hg (by have := h.l; simp [cnt, cln] at this; omega)⟩
    | _ => exact absurd (congrArg (fun x => x.1) e) (by simp [ier])
  | lay n v =>
    cases j with
    | lay m v' =>
      have e1 : n = m := congrArg (fun x => x.2.1) e
      have e2 : [v] = [v'] := congrArg (fun x => x.2.2.2) e
      cases e2
      subst e1
      obtain ⟨ds, hd, hg, _⟩ := h.c
      have hd' : DpAll K H [v] ds := hd
      exact ⟨_, .tup h.at_ (.cons (.str _) (.cons (.str _) hd')), .tup g.at_ (.cons (.str _) (.cons (.str _) hd')), two (pw "layout" (.inr (.inr (.inr rfl)))) h.n hd' hg (by show 1 ≤ 10; decide)⟩
    | _ => exact absurd (congrArg (fun x => x.1) e) (by simp [ier])
  | fact n r row =>
    cases j with
    | fact m r' row' =>
      have e1 : n = m := congrArg (fun x => x.2.1) e
      have e2 : row = row' := congrArg (fun x => x.2.2.1) e
      subst e1 e2
      obtain ⟨h1, h2, h3, h4⟩ := h.at_
      obtain ⟨g1, g2, _, _⟩ := g.at_
      refine ⟨.tuple [.str "fact", .str n, rowD row], .tup h1 (.cons (.str _) (.cons (.str _) (.cons (.tup h2 (sc_dp h3)) .nil))), .tup g1 (.cons (.str _) (.cons (.str _) (.cons (.tup g2 (sc_dp h3)) .nil))), ?_⟩
      refine Gd.tup (by show 3 ≤ 1000; decide) fun d m => ?_
      simp only [List.mem_cons, List.not_mem_nil, or_false] at m
      rcases m with z | z | z
      · rw [z]; exact (Gd.str (pw "fact" (.inr (.inl rfl)))).up (by omega)
      · rw [z]; exact (Gd.str h.n).up (by omega)
      · rw [z]; exact Gd.row h3 (by omega)
    | _ => exact absurd (congrArg (fun x => x.1) e) (by simp [ier])
theorem its_data {K : PySem.W.Frag} {H : Hp} : ∀ {its jts : Its}, ItsG K H its → ItsG K H jts → its.map te = jts.map te → ∃ ds, DpAll K H (irf its) ds ∧ DpAll K H (irf jts) ds ∧ ∀ d ∈ ds, Gd 2 d
  | [], [], _, _, _ => ⟨[], .nil, .nil, fun _ m => by cases m⟩
  | [], _ :: _, _, _, e => by cases e
  | _ :: _, [], _, _, e => by cases e
  | t :: its, u :: jts, h, g, e => by
    rw [List.map_cons, List.map_cons] at e
    obtain ⟨ds, a, b, c⟩ := its_data (its := its) (jts := jts) (fun x m => h x (List.mem_cons_of_mem _ m)) (fun x m => g x (List.mem_cons_of_mem _ m)) (List.cons.inj e).2
    obtain ⟨d, p, q, r⟩ := it_data (h t List.mem_cons_self) (g u List.mem_cons_self) (List.cons.inj e).1
    refine ⟨d :: ds, .cons p a, .cons q b, fun x m => ?_⟩
    rcases List.mem_cons.mp m with z | m
    · rw [z]; exact r
    · exact c x m
/-! all items of tables, in their order -/
def cOf (R : Tb) (n : Str) : List V := match valG R n with
  | some (_, c) => c
  | none => []
def rOf (F : Fb) (n : Str) : List (Addr × List V) := match valG F n with
  | some (_, rs) => rs
  | none => []
def lOf (L : List (Str × V)) (n : Str) : V := match valG L n with
  | some v => v
  | none => .non
def allE (R : Tb) (F : Fb) (S : Tb) (L : List (Str × V)) (ys fs ss ls : List Str) : List Kt :=
  ys.map (fun n => ier (.rel n (cOf R n))) ++ (fs.flatMap fun n => (rOf F n).map fun t => ier (.fact n t.1 t.2)) ++ ss.map (fun n => ier (.str n (cOf S n))) ++ ls.map fun n => ier (.lay n (lOf L n))
theorem strict {ys : List Str} (nd : ys.Nodup) (h : sortedS ys = true) : ys.Pairwise fun a b => a.cps.toList < b.cps.toList := by
  refine (List.Pairwise.and (sortedS_pw h) nd).imp fun {a b} ⟨h1, h2⟩ => ?_
  rcases str_tot a b with z | z | z
  · exact z
  · exact absurd z h2
  · exact absurd z h1
theorem lt_rel {n m : Str} {c c' : List V} (h : n.cps.toList < m.cps.toList) : tLt (ier (.rel n c)) (ier (.rel m c')) := (tLt_iff (0, n, [], c) (0, m, [], c')).mpr (.inr ⟨rfl, .inl h⟩)
theorem lt_str {n m : Str} {c c' : List V} (h : n.cps.toList < m.cps.toList) : tLt (ier (.str n c)) (ier (.str m c')) := (tLt_iff (2, n, [], c) (2, m, [], c')).mpr (.inr ⟨rfl, .inl h⟩)
theorem lt_lay {n m : Str} {c c' : V} (h : n.cps.toList < m.cps.toList) : tLt (ier (.lay n c)) (ier (.lay m c')) := (tLt_iff (3, n, [], [c]) (3, m, [], [c'])).mpr (.inr ⟨rfl, .inl h⟩)
theorem lt_fact {n m : Str} {r r' : Addr} {c c' : List V} (h : n.cps.toList < m.cps.toList ∨ (n = m ∧ Rlt c c')) : tLt (ier (.fact n r c)) (ier (.fact m r' c')) := (tLt_iff (1, n, c, []) (1, m, c', [])).mpr (.inr ⟨rfl, h⟩)
theorem allE_eq {os : Its} {R S : Tb} {F : Fb} {L : List (Str × V)} {ys fs ss ls : List Str} (h : Rep os R F S L) (ks : KSrt os) (so : ScI os) (py : ys.Perm (R.map (·.1))) (sy : sortedS ys = true) (pf : fs.Perm (F.map (·.1))) (sf : sortedS fs = true)
    (ps : ss.Perm (S.map (·.1))) (ss' : sortedS ss = true) (pl : ls.Perm (L.map (·.1))) (sl : sortedS ls = true) : allE R F S L ys fs ss ls = os.map te := by
  have k1 := strict (py.nodup_iff.mpr h.rn) sy
  have k2 := strict (pf.nodup_iff.mpr h.fd) sf
  have k3 := strict (ps.nodup_iff.mpr h.sn) ss'
  have k4 := strict (pl.nodup_iff.mpr h.ln) sl
  have mt : ∀ x, x ∈ os.map te ↔ ∃ i, Has os i ∧ ier i = x := fun x => by
    rw [List.mem_map]
    exact ⟨fun ⟨t, m, e⟩ => ⟨t.2, ⟨t.1, m⟩, e⟩, fun ⟨i, ⟨a, m⟩, e⟩ => ⟨(a, i), m, e⟩⟩
  have rsc : ∀ n, ∀ t ∈ rOf F n, ∀ x ∈ t.2, Scal x := fun n => by
    unfold rOf
    cases e : valG F n with
    | none => exact fun _ m => by cases m
    | some b => exact (h.fs _ _ _ e).2
  have m1 : ∀ x, x ∈ ys.map (fun n => ier (.rel n (cOf R n))) ↔ ∃ n c, Has os (.rel n c) ∧ ier (.rel n c) = x := fun x => by
    rw [List.mem_map]
    constructor
    · rintro ⟨n, m, e⟩
      have z := valG_key.mp (py.mem_iff.mp m)
      cases ev : valG R n with
      | none => rw [ev] at z; cases z
      | some b =>
        have ec : cOf R n = b.2 := by unfold cOf; rw [ev]
        exact ⟨n, b.2, (h.r n b.2).mp ⟨b.1, ev⟩, by rw [← ec]; exact e⟩
    · rintro ⟨n, c, hs, e⟩
      obtain ⟨q, ev⟩ := (h.r n c).mpr hs
      have ec : cOf R n = c := by unfold cOf; rw [ev]
      exact ⟨n, py.mem_iff.mpr (valG_key.mpr (by rw [ev]; rfl)), by rw [ec]; exact e⟩
  have m3 : ∀ x, x ∈ ss.map (fun n => ier (.str n (cOf S n))) ↔ ∃ n c, Has os (.str n c) ∧ ier (.str n c) = x := fun x => by
    rw [List.mem_map]
    constructor
    · rintro ⟨n, m, e⟩
      have z := valG_key.mp (ps.mem_iff.mp m)
      cases ev : valG S n with
      | none => rw [ev] at z; cases z
      | some b =>
        have ec : cOf S n = b.2 := by unfold cOf; rw [ev]
        exact ⟨n, b.2, (h.s n b.2).mp ⟨b.1, ev⟩, by rw [← ec]; exact e⟩
    · rintro ⟨n, c, hs, e⟩
      obtain ⟨q, ev⟩ := (h.s n c).mpr hs
      have ec : cOf S n = c := by unfold cOf; rw [ev]
      exact ⟨n, ps.mem_iff.mpr (valG_key.mpr (by rw [ev]; rfl)), by rw [ec]; exact e⟩
  have m4 : ∀ x, x ∈ ls.map (fun n => ier (.lay n (lOf L n))) ↔ ∃ n v, Has os (.lay n v) ∧ ier (.lay n v) = x := fun x => by
    rw [List.mem_map]
    constructor
    · rintro ⟨n, m, e⟩
      have z := valG_key.mp (pl.mem_iff.mp m)
      cases ev : valG L n with
      | none => rw [ev] at z; cases z
      | some b =>
        have ec : lOf L n = b := by unfold lOf; rw [ev]
        exact ⟨n, b, (h.l n b).mp ev, by rw [← ec]; exact e⟩
    · rintro ⟨n, c, hs, e⟩
      have ev := (h.l n c).mpr hs
      have ec : lOf L n = c := by unfold lOf; rw [ev]
      exact ⟨n, pl.mem_iff.mpr (valG_key.mpr (by rw [ev]; rfl)), by rw [ec]; exact e⟩
  have m2 : ∀ x, x ∈ (fs.flatMap fun n => (rOf F n).map fun t => ier (.fact n t.1 t.2)) ↔ ∃ n r row, Has os (.fact n r row) ∧ ier (.fact n r row) = x := fun x => by
    rw [List.mem_flatMap]
    constructor
    · rintro ⟨n, m, mm⟩
      obtain ⟨t, mt, e⟩ := List.mem_map.mp mm
      have z := valG_key.mp (pf.mem_iff.mp m)
      cases ev : valG F n with
      | none => rw [ev] at z; cases z
      | some b =>
        have ec : rOf F n = b.2 := by unfold rOf; rw [ev]
        rw [ec] at mt
        obtain ⟨r, hr⟩ := (h.f n t.2).mp ⟨b.1, b.2, ev, t.1, mt⟩
        exact ⟨n, r, t.2, hr, e⟩
    · rintro ⟨n, r, row, hs, e⟩
      obtain ⟨q, rs, ev, r', mr⟩ := (h.f n row).mpr ⟨r, hs⟩
      have ec : rOf F n = rs := by unfold rOf; rw [ev]
      exact ⟨n, pf.mem_iff.mpr (valG_key.mpr (by rw [ev]; rfl)), List.mem_map.mpr ⟨(r', row), by rw [ec]; exact mr, e⟩⟩
  have lo : ∀ (a b : Kt), a.1 < b.1 → tLt a b := fun a b l => (tLt_iff a b).mpr (.inl l)
  have tsc : ∀ x ∈ allE R F S L ys fs ss ls, tSc x := fun x m => by
    unfold allE at m
    rw [List.mem_append, List.mem_append, List.mem_append, m1, m2, m3, m4] at m
    rcases m with ((⟨n, c, _, e⟩ | ⟨n, r, row, ⟨a, m⟩, e⟩) | ⟨n, c, _, e⟩) | ⟨n, v, _, e⟩
    · rw [← e]; exact fun _ m => by cases m
    · rw [← e]; exact so _ m
    · rw [← e]; exact fun _ m => by cases m
    · rw [← e]; exact fun _ m => by cases m
  refine srt_uniq (lt := tLt) ?_ (List.pairwise_map.mpr ks) (fun x mx y my => tLt_asym (tsc x mx) (tsc y my)) fun x => ?_
  · unfold allE
    rw [List.pairwise_append, List.pairwise_append, List.pairwise_append]
    refine ⟨⟨⟨?_, ?_, ?_⟩, ?_, ?_⟩, ?_, ?_⟩
    · exact List.pairwise_map.mpr (k1.imp fun h => lt_rel h)
    · rw [List.pairwise_flatMap]
      refine ⟨fun n _ => ?_, k2.imp fun {a b} hab x mx y my => ?_⟩
      · rw [List.pairwise_map]
        have : Srt (rOf F n) := by
          unfold rOf
          cases e : valG F n with
          | none => exact .nil
          | some b => exact (h.fs _ _ _ e).1
        exact this.imp fun h => lt_fact (.inr ⟨rfl, h⟩)
      · obtain ⟨t, _, e1⟩ := List.mem_map.mp mx
        obtain ⟨u, _, e2⟩ := List.mem_map.mp my
        rw [← e1, ← e2]
        exact lt_fact (.inl hab)
    · intro a ma b mb
      obtain ⟨n, c, _, e⟩ := (m1 a).mp ma
      obtain ⟨n', r, row, _, e'⟩ := (m2 b).mp mb
      rw [← e, ← e']
      exact lo _ _ (by show (0 : Int) < 1; decide)
    · exact List.pairwise_map.mpr (k3.imp fun h => lt_str h)
    · intro a ma b mb
      obtain ⟨n', c', _, e'⟩ := (m3 b).mp mb
      rw [← e']
      rcases List.mem_append.mp ma with ma | ma
      · obtain ⟨n, c, _, e⟩ := (m1 a).mp ma
        rw [← e]
        exact lo _ _ (by show (0 : Int) < 2; decide)
      · obtain ⟨n, r, row, _, e⟩ := (m2 a).mp ma
        rw [← e]
        exact lo _ _ (by show (1 : Int) < 2; decide)
    · exact List.pairwise_map.mpr (k4.imp fun h => lt_lay h)
    · intro a ma b mb
      obtain ⟨n', c', _, e'⟩ := (m4 b).mp mb
      rw [← e']
      rcases List.mem_append.mp ma with ma | ma
      · rcases List.mem_append.mp ma with ma | ma
        · obtain ⟨n, c, _, e⟩ := (m1 a).mp ma
          rw [← e]
          exact lo _ _ (by show (0 : Int) < 3; decide)
        · obtain ⟨n, r, row, _, e⟩ := (m2 a).mp ma
          rw [← e]
          exact lo _ _ (by show (1 : Int) < 3; decide)
      · obtain ⟨n, c, _, e⟩ := (m3 a).mp ma
        rw [← e]
        exact lo _ _ (by show (2 : Int) < 3; decide)
  · rw [mt]
    unfold allE
    rw [List.mem_append, List.mem_append, List.mem_append, m1, m2, m3, m4]
    constructor
    · rintro (((⟨n, c, hs, e⟩ | ⟨n, r, row, hs, e⟩) | ⟨n, c, hs, e⟩) | ⟨n, v, hs, e⟩)
      · exact ⟨_, hs, e⟩
      · exact ⟨_, hs, e⟩
      · exact ⟨_, hs, e⟩
      · exact ⟨_, hs, e⟩
    · rintro ⟨i, hs, e⟩
      cases i with
      | rel n c => exact .inl (.inl (.inl ⟨n, c, hs, e⟩))
      | fact n r row => exact .inl (.inl (.inr ⟨n, r, row, hs, e⟩))
      | str n c => exact .inl (.inr ⟨n, c, hs, e⟩)
      | lay n v => exact .inr ⟨n, v, hs, e⟩
end K1
namespace K1
open PySem PySem.Spec PyProof.Rows L2 Ow
abbrev s_law_name : Stmt := topS 26
abbrev N_law_name : List Str := ["state"]
theorem sc_law_name : FnScope N_law_name ["state"] (defScope s_law_name) := ⟨rfl, rfl, rfl, by decide +kernel, rfl, by decide +kernel, by decide +kernel⟩
section
variable {P : Program} {w : World} {K : PySem.W.Frag} {mg : Str → Option Value} {base : Heap}
theorem ok_name {f : Addr} {fd : FuncData} (F : Fun K "_law_name" "_law_name" s_law_name f fd)
    (D_law_next : Kn P w K mg base 3 "_law_next" ["state", "limit"] spNext) :
    FnOk P w K mg base CX0 4 f fd ["state"] spName := by
  refine F.ok sc_law_name (fun vs H Q E h => ?_) (fun cdv A outer s H vs Q E hr h => ?_)
  · obtain ⟨p, d, rfl, _⟩ := h
    rfl
  · obtain ⟨p, d, rfl, rg, q⟩ := h
    refine ⟨_, (pss_one (ps_ret (pe_ix ix_list (pe_lst (pa_cons pe_str (pa_cons pe_str (pa_cons pe_str (pa_cons pe_str (pa_cons pe_str (pa_cons pe_str pa_nil))))))) (pe_kn D_law_next hr (pa_cons (pv 0) (pa_cons pe_int pa_nil))) (fun _ _ => rfl)))), ?_⟩
    refine ⟨by decide, fun o no => ⟨_, rfl, p, d, 6, rfl, by decide, rg.same (Same.new no), ?_⟩⟩
    rintro x H' ⟨v, rfl, v0, v1⟩ gw rg'
    obtain ⟨y, hy, my⟩ := at_in (xs := [V.str "a", .str "b", .str "a2", .str "long_name_12", .str "s_", .str "r"]) v0 v1
    refine ⟨o, _, v, y, rfl, rfl, SqL.of (gw.keep upd_same (rg.free no).1), hy, q _ _ ?_ (fun b u nb e => gw b u nb (Gw.new no b u nb e)) rg'⟩
    simp only [List.mem_cons, List.not_mem_nil, or_false] at my
    rcases my with rfl | rfl | rfl | rfl | rfl | rfl <;> exact ⟨_, rfl, by decide +kernel⟩
end
end K1

namespace K1
open PySem PySem.Spec PyProof.Rows L2 Ow
abbrev s_law_row : Stmt := topS 25
abbrev N_law_row : List Str := ["state", "width", "k"]
theorem sc_law_row : FnScope N_law_row ["state", "width"] (defScope s_law_row) := ⟨rfl, rfl, rfl, by decide +kernel, rfl, by decide +kernel, by decide +kernel⟩
section
variable {P : Program} {w : World} {K : PySem.W.Frag} {mg : Str → Option Value} {base : Heap}
theorem ok_row {f : Addr} {fd : FuncData} (F : Fun K "_law_row" "_law_row" s_law_row f fd) (T : Bl mg)
    (D_law_value : Kn P w K mg base 5 "_law_value" ["state"] spValue) :
    FnOk P w K mg base CX0 6 f fd ["state", "width"] spRow := by
  refine F.ok sc_law_row (fun vs H Q E h => ?_) (fun cdv A outer s H vs Q E hr h => ?_)
  · obtain ⟨p, d, n, rfl, _⟩ := h
    rfl
  · obtain ⟨p, d, n, rfl, hn, rg, q⟩ := h
    refine ⟨_, (pss_one (ps_ret (pe_callTy call_tuple_of (by rfl) T.tuple (by decide +kernel) (pa_cons (pe_lc (own := [("k", 2)]) (g := gName 2) rfl sc_law_row.nd (pi_range1 (by rfl) T.range (pa_cons (pv 1) pa_nil)) (blkOk_by (own := [("k", 2)]) (N := N_law_row) (sc := defScope s_law_row) (by decide +kernel)) (fun _ _ _ _ _ => pg_name (i := 2) sc_law_row.nd rfl (Or.inl rfl)) (fun _ _ _ _ _ => pts_nil) (fun _ _ _ _ _ => (pe_kn D_law_value hr (pa_cons (pv 0) pa_nil)))) pa_nil)))), ?_⟩
    refine ⟨_, rfl, (n : Int), rfl, by omega, by omega, fun D nD => lc_range (lo := 0) (n := (n : Int).toNat) (fun i H4 => ∃ ys : List V, H4 D = some (.lst ys) ∧
      ys.length = i ∧ (∀ y ∈ ys, Scal y) ∧ Gw p H H4 ∧ Rng d H4 p) ⟨[], upd_same, rfl, fun _ z => (nomatch z), Gw.new nD, rg.same (Same.new nD)⟩ (fun i H4 hi hP => ?_) (fun H4 hP => ?_)⟩
    · obtain ⟨ys, eD, ly, l1, gw4, rg4⟩ := hP
      refine ⟨rfl, ?_⟩
      refine ⟨_, rfl, p, d, rfl, rg4, ?_⟩
      rintro x H5 sx gw5 rg5
      refine ⟨ys, gw5.keep eD (rg.free nD).1, small (m := 1000) (by omega) (by decide), ys ++ [x], upd_same, by rw [List.length_append, ly]; rfl, fun y hy => ?_, Gw.over (gw4.trans gw5) nD, rg5.upd (rg.free nD)⟩
      rcases List.mem_append.mp hy with h | h
      · exact l1 y h
      · rw [List.mem_singleton.mp h]
        exact sx
    · obtain ⟨ys, eD, ly, l1, gw4, rg4⟩ := hP
      exact ⟨D, ys, rfl, .inl ⟨SqL.of eD, fun l nl => q _ _ ⟨l, ys, rfl, upd_same, by omega, l1⟩ (Gw.over gw4 (gw4.free nl (rg4.free nl).1)) (rg4.upd (rg4.free nl))⟩⟩
end
end K1

namespace K1
open PySem PySem.Spec PyProof.Rows L2 Ow Tlz
abbrev s_law_key : Stmt := topS 29
abbrev N_law_key : List Str := ["item"]
theorem sc_law_key : FnScope N_law_key ["item"] (defScope s_law_key) := ⟨rfl, rfl, rfl, by decide +kernel, rfl, by decide +kernel, by decide +kernel⟩
abbrev sortTab : List (Key × V) := mergeK [] [(Sum.inr "relation", .int 0), (Sum.inr "structure", .int 2), (Sum.inr "layout", .int 3)]
theorem tab0 : valV sortTab (Sum.inr "relation") = some (.int 0) := by decide +kernel
theorem tab2 : valV sortTab (Sum.inr "structure") = some (.int 2) := by decide +kernel
theorem tab3 : valV sortTab (Sum.inr "layout") = some (.int 3) := by decide +kernel
section
variable {P : Program} {w : World} {K : PySem.W.Frag} {mg : Str → Option Value} {base : Heap}
/-- the key as a new tuple -/
theorem key_new {H H1 : Hp} {Q : VK} {s : Int} {n : Str} {row : List V} {r : Addr} (q : Mak H Q fun y H' => KeyAt K H' y s n row) (sm : Same H H1) (hr : SqT K H1 r row) (pn : Pr n)
    (sr : ∀ y ∈ row, Scal y) (lr : row.length ≤ 1000) : ∀ p, H1 p = none → Q (.ref p) (upd H1 p (.tup [.int s, .str n, .ref r])) := fun p np =>
  q _ _ ⟨p, r, rfl, SqT.of upd_same, Tk.same (Same.new np) _ _ hr, pn, sr, lr⟩ (sm.trans (Same.new np))
theorem ok_lkey {f : Addr} {fd : FuncData} (F : Fun K "_law_key" "_law_key" s_law_key f fd) :
    FnOk P w K mg base CX0 1 f fd ["item"] (spLKey K) := by
  refine F.ok sc_law_key (fun vs H Q E h => ?_) (fun cdv A outer s0 H vs Q E hr h => ?_)
  · obtain ⟨x, s, n, row, rfl, _⟩ := h
    rfl
  · obtain ⟨x, s, n, row, rfl, ⟨a, xs, rfl, hx, pn, sr, lr, hc⟩, q⟩ := h
    refine ⟨_, (pss_cons (ps_if (pt_cmpR op_eq (pe_ix ix_tup (pv 0) pe_int (fun _ _ => rfl)) pe_str (nomark _)) (pss_one (ps_ret (pe_tup (pa_cons pe_int (pa_cons (pe_ix ix_tup (pv 0) pe_int (fun _ _ => rfl)) (pa_cons (pe_ix ix_tup (pv 0) pe_int (fun _ _ => rfl)) pa_nil)))))) pss_nil)
      (pss_one (ps_ret (pe_tup (pa_cons (pe_dget (hu_of hr) (pe_disp (pps_cons pe_str pe_int (pps_cons pe_str pe_int (pps_cons pe_str pe_int pps_nil))) (by rfl) (by rfl) (fun z => by cases z) (by decide)) (pe_ix ix_tup (pv 0) pe_int (fun _ _ => rfl)) (fun _ _ => rfl)) (pa_cons (pe_ix ix_tup (pv 0) pe_int (fun _ _ => rfl)) (pa_cons (pe_tup pa_nil) pa_nil))))))), ?_⟩
    rcases hc with ⟨rest, rfl, rfl, rfl⟩ | ⟨rest, rfl, rfl, rfl⟩ | ⟨rest, rfl, rfl, rfl⟩ | ⟨r, rfl, rfl, hrw⟩
    · refine ⟨_, rfl, a, _, 0, .str "relation", rfl, rfl, hx, at_of (j := 0) rfl rfl, rfl, _, rfl, ite2 (fun e => absurd e (by decide +kernel)) (fun _ => ?_)⟩
      refine fun t nt => ⟨upd_same, [(Sum.inr "relation", .int 0), (Sum.inr "structure", .int 2), (Sum.inr "layout", .int 3)], rfl, by decide, ?_⟩
      have s1 : Same H (upd (upd H t (.dK [])) t (.dK sortTab)) := Same.over (Same.new nt) nt
      refine ⟨_, rfl, a, _, 0, .str "relation", rfl, rfl, Tk.same s1 _ _ hx, at_of (j := 0) rfl rfl, t, .int 0, rfl, tab0 ▸ DGet.k (k := Sum.inr "relation") upd_same, ?_⟩
      refine ⟨_, rfl, a, _, 1, .str n, rfl, rfl, Tk.same s1 _ _ hx, at_of (j := 1) rfl rfl, sz 0, fun u nu => ⟨sz 3, ?_⟩⟩
      exact key_new q (s1.trans (Same.new nu)) (SqT.of upd_same) pn sr lr
    · refine ⟨_, rfl, a, _, 0, .str "structure", rfl, rfl, hx, at_of (j := 0) rfl rfl, rfl, _, rfl, ite2 (fun e => absurd e (by decide +kernel)) (fun _ => ?_)⟩
      refine fun t nt => ⟨upd_same, [(Sum.inr "relation", .int 0), (Sum.inr "structure", .int 2), (Sum.inr "layout", .int 3)], rfl, by decide, ?_⟩
      have s1 : Same H (upd (upd H t (.dK [])) t (.dK sortTab)) := Same.over (Same.new nt) nt
      refine ⟨_, rfl, a, _, 0, .str "structure", rfl, rfl, Tk.same s1 _ _ hx, at_of (j := 0) rfl rfl, t, .int 2, rfl, tab2 ▸ DGet.k (k := Sum.inr "structure") upd_same, ?_⟩
      refine ⟨_, rfl, a, _, 1, .str n, rfl, rfl, Tk.same s1 _ _ hx, at_of (j := 1) rfl rfl, sz 0, fun u nu => ⟨sz 3, ?_⟩⟩
      exact key_new q (s1.trans (Same.new nu)) (SqT.of upd_same) pn sr lr
    · refine ⟨_, rfl, a, _, 0, .str "layout", rfl, rfl, hx, at_of (j := 0) rfl rfl, rfl, _, rfl, ite2 (fun e => absurd e (by decide +kernel)) (fun _ => ?_)⟩
      refine fun t nt => ⟨upd_same, [(Sum.inr "relation", .int 0), (Sum.inr "structure", .int 2), (Sum.inr "layout", .int 3)], rfl, by decide, ?_⟩
      have s1 : Same H (upd (upd H t (.dK [])) t (.dK sortTab)) := Same.over (Same.new nt) nt
      refine ⟨_, rfl, a, _, 0, .str "layout", rfl, rfl, Tk.same s1 _ _ hx, at_of (j := 0) rfl rfl, t, .int 3, rfl, tab3 ▸ DGet.k (k := Sum.inr "layout") upd_same, ?_⟩
      refine ⟨_, rfl, a, _, 1, .str n, rfl, rfl, Tk.same s1 _ _ hx, at_of (j := 1) rfl rfl, sz 0, fun u nu => ⟨sz 3, ?_⟩⟩
      exact key_new q (s1.trans (Same.new nu)) (SqT.of upd_same) pn sr lr
    · refine ⟨_, rfl, a, _, 0, .str "fact", rfl, rfl, hx, at_of (j := 0) rfl rfl, rfl, _, rfl, ite2 (fun _ => ?_) (fun e => absurd (by decide +kernel) e)⟩
      refine ⟨_, rfl, a, _, 1, .str n, rfl, rfl, hx, at_of (j := 1) rfl rfl, _, rfl, a, _, 2, .ref r, rfl, rfl, hx, at_of (j := 2) rfl rfl, sz 3, ?_⟩
      exact key_new q (Same.refl H) hrw pn sr lr
end
end K1

namespace K1
open PySem PySem.Spec PyProof.Rows L2 Ow Tlz
abbrev s_law_key_order : Stmt := topS 30
abbrev N_law_key_order : List Str := ["first", "second"]
theorem sc_law_key_order : FnScope N_law_key_order ["first", "second"] (defScope s_law_key_order) := ⟨rfl, rfl, rfl, by decide +kernel, rfl, by decide +kernel, by decide +kernel⟩
theorem cutp2 (a b c : V) : cutV [a, b, c] none (some 2) = [a, b] := rfl
theorem lay2 {s : Int} {n : Str} (p : Pr n) : (kd2 s n).canLay0 = true := by
  have a := p.ok
  unfold kd2
  rw [PyData.canLay0, PyData.canLayAll0, PyData.canLayAll0, PyData.canLayAll0, a]
  simp [PyData.canLay0]
theorem deep2 (s : Int) (n : Str) : (kd2 s n).depth ≤ 1 := by
  simp [kd2, PyData.depth, PyData.depthAll]
theorem ok2 (s s' : Int) (n n' : Str) : okD 1 (kd2 s n) (kd2 s' n') = true := by
  simp only [kd2, okD, okL]
  split
  · split <;> rfl
  · rfl
section
variable {P : Program} {w : World} {K : PySem.W.Frag} {mg : Str → Option Value} {base : Heap}
theorem ok_lord {f : Addr} {fd : FuncData} (F : Fun K "_law_key_order" "_law_key_order" s_law_key_order f fd) (T : Bl mg)
    (D_law_order : Kn P w K mg base 2 "_law_order" ["first", "second"] (spOrder K)) :
    FnOk P w K mg base CX0 3 f fd ["first", "second"] (spLOrd K) := by
  refine F.ok sc_law_key_order (fun vs H Q E h => ?_) (fun cdv A outer s0 H vs Q E hr h => ?_)
  · obtain ⟨x, y, s, s', n, n', row, row', rfl, _⟩ := h
    rfl
  · obtain ⟨x, y, s, s', n, n', row, row', rfl, ⟨a, r, rfl, ha, hrw, pn, sr, lr⟩, ⟨b, r', rfl, hb, hrw', pn', sr', lr'⟩, q⟩ := h
    refine ⟨_, (pss_cons (ps_if (pt_cmpR (op_neD (hu64 hr)) (pe_slice sl_tupA (pv 0) po_none (po_some pe_int)) (pe_slice sl_tupA (pv 1) po_none (po_some pe_int)) (nomark _)) (pss_one (ps_ret (pe_ix ix_list (pe_lst (pa_cons pe_int (pa_cons (pe_un un_neg pe_int) pa_nil))) (pe_callTy call_int1 (by rfl) T.int (by decide +kernel) (pa_cons (pe_cmpR (op_ltK hr) (pe_slice sl_tupA (pv 0) po_none (po_some pe_int)) (pe_slice sl_tupA (pv 1) po_none (po_some pe_int)) (nomark _)) pa_nil)) (fun _ _ => rfl)))) pss_nil)
      (pss_one (ps_ret (pe_kn D_law_order hr (pa_cons (pe_ix ix_tup (pv 0) pe_int (fun _ _ => rfl)) (pa_cons (pe_ix ix_tup (pv 1) pe_int (fun _ _ => rfl)) pa_nil)))))), ?_⟩
    refine ⟨_, rfl, 2, rfl, a, _, rfl, ha, fun z => absurd (show (2 : Nat) = 3 from z.2) (by decide), fun _ t1 n1 => ?_⟩
    have s1 : Same H (upd H t1 (.tup (cutV [.int s, .str n, .ref r] none (some 2)))) := Same.new n1
    refine ⟨_, rfl, 2, rfl, b, _, rfl, Tk.same s1 _ _ hb, fun z => absurd (show (2 : Nat) = 3 from z.2) (by decide), fun _ t2 n2 => ?_⟩
    have s2 := Same.new (o := .tup (cutV [.int s', .str n', .ref r'] none (some 2))) n2
    have s12 := s1.trans s2
    refine ⟨kd2 s n, kd2 s' n', .tup (Tk.same s2 _ _ (SqT.of upd_same)) (.cons (.int s) (.cons (.str n) .nil)), .tup (SqT.of upd_same) (.cons (.int s') (.cons (.str n') .nil)),
      shaped_of (lay2 pn) (deep2 s n) (by decide), shaped_of (lay2 pn') (deep2 s' n') (by decide), _, rfl, ite2 (fun e => ?_) (fun e => ?_)⟩
    · refine ⟨1, rfl, by decide, fun o no => ?_⟩
      have s3 := Same.new (o := .lst [V.int 1, V.int (-1)]) no
      have s13 := s12.trans s3
      refine ⟨_, rfl, 2, rfl, a, _, rfl, Tk.same s13 _ _ ha, fun z => absurd (show (2 : Nat) = 3 from z.2) (by decide), fun _ t4 n4 => ?_⟩
      have s4 := Same.new (o := .tup (cutV [.int s, .str n, .ref r] none (some 2))) n4
      have s14 := s13.trans s4
      refine ⟨_, rfl, 2, rfl, b, _, rfl, Tk.same s14 _ _ hb, fun z => absurd (show (2 : Nat) = 3 from z.2) (by decide), fun _ t5 n5 => ?_⟩
      have s5 := Same.new (o := .tup (cutV [.int s', .str n', .ref r'] none (some 2))) n5
      refine ⟨1, kd2 s n, kd2 s' n', ⟨.tup (Tk.same s5 _ _ (SqT.of upd_same)) (.cons (.int s) (.cons (.str n) .nil)), .tup (SqT.of upd_same) (.cons (.int s') (.cons (.str n') .nil)),
        lay2 pn, lay2 pn', deep2 s n, deep2 s' n', ok2 s s' n n', by decide⟩, .inr ⟨_, rfl, ?_⟩⟩
      have eo := s5 _ _ (s4 _ _ (upd_same (H := _) (a := o) (o := .lst [V.int 1, V.int (-1)])))
      have fin : ∀ H', Same H H' → Q (.int (if ltD 1 (kd2 s n) (kd2 s' n') = true then -1 else 1)) H' := fun H' sm => q _ _ (by
        unfold keyOrd
        rw [if_pos e]) sm
      have s15 := s14.trans s5
      cases hl : ltD 1 (kd2 s n) (kd2 s' n') with
      | true =>
        rw [hl] at fin
        exact ⟨o, _, 1, .int (-1), rfl, rfl, SqL.of eo, at_of (j := 1) rfl rfl, fin _ s15⟩
      | false =>
        rw [hl] at fin
        exact ⟨o, _, 0, .int 1, rfl, rfl, SqL.of eo, at_of (j := 0) rfl rfl, fin _ s15⟩
    · refine ⟨_, rfl, a, _, 2, .ref r, rfl, rfl, Tk.same s12 _ _ ha, at_of (j := 2) rfl rfl, _, rfl, b, _, 2, .ref r', rfl, rfl, Tk.same s12 _ _ hb, at_of (j := 2) rfl rfl,
        r, r', row, row', rfl, Tk.same s12 _ _ hrw, Tk.same s12 _ _ hrw', lr, sr, sr', q _ _ ?_ s12⟩
      unfold keyOrd
      rw [if_neg e]
end
end K1
namespace K1
open PySem PySem.Spec PyProof.Rows L2 Ow Tlz
abbrev s_law_item : Stmt := topS 31
abbrev N_law_item : List Str := ["state", "pick", "name", "columns"]
theorem sc_law_item : FnScope N_law_item ["state"] (defScope s_law_item) := ⟨rfl, rfl, rfl, by decide +kernel, rfl, by decide +kernel, by decide +kernel⟩
def spItemG (K : PySem.W.Frag) : Sp := fun vs H Q _ => ∃ p d : Addr, vs = [.ref p] ∧ Rng d H p ∧
  Drw p d H Q fun x H' => ∃ (a : Addr) (i : It), x = .ref a ∧ ItG K H' a i
theorem take_strs {ws : List Str} (h : ∀ w ∈ ws, Pr w) (z : Int) (z0 : 0 ≤ z) : ∀ x ∈ cutV (ws.map V.str) none (some z), ∃ w, x = .str w ∧ Pr w := fun x m => by
  rw [cut_take _ z0] at m
  obtain ⟨w, mw, e⟩ := List.mem_map.mp (List.mem_of_mem_take m)
  exact ⟨w, e.symm, h w mw⟩
theorem take_len {xs : List V} (z : Int) (z0 : 0 ≤ z) (l : xs.length ≤ 4) : (cutV xs none (some z)).length ≤ 1000 := by
  rw [cut_take _ z0, List.length_take]
  omega
section
variable {P : Program} {w : World} {K : PySem.W.Frag} {mg : Str → Option Value} {base : Heap}
theorem ok_item {f : Addr} {fd : FuncData} (F : Fun K "_law_item" "_law_item" s_law_item f fd) (T : Bl mg)
    (D_law_next : Kn P w K mg base 3 "_law_next" ["state", "limit"] spNext)
    (D_law_name : Kn P w K mg base 4 "_law_name" ["state"] spName)
    (D_law_row : Kn P w K mg base 6 "_law_row" ["state", "width"] spRow) :
    FnOk P w K mg base CX0 7 f fd ["state"] (spItemG K) := by
  refine F.ok sc_law_item (fun vs H Q E h => ?_) (fun cdv A outer s0 H vs Q E hr h => ?_)
  · obtain ⟨p, d, rfl, _⟩ := h
    rfl
  · obtain ⟨p, d, rfl, rg, q⟩ := h
    refine ⟨_, (pss_cons (ps_set (i := 1) sc_law_item.nd rfl (.inl rfl) (pe_kn D_law_next hr (pa_cons (pv 0) (pa_cons pe_int pa_nil))))
      (pss_cons (ps_set (i := 2) sc_law_item.nd rfl (.inl rfl) (pe_kn D_law_name hr (pa_cons (pv 0) pa_nil)))
      (pss_cons (ps_set (i := 3) sc_law_item.nd rfl (.inl rfl) (pe_callTy call_tuple_of (by rfl) T.tuple (by decide +kernel) (pa_cons (pe_slice sl_list (pe_lst (pa_cons pe_str (pa_cons pe_str (pa_cons pe_str (pa_cons pe_str pa_nil))))) po_none (po_some (pe_op op_add pe_int (pe_kn D_law_next hr (pa_cons (pv 0) (pa_cons pe_int pa_nil)))))) pa_nil)))
      (pss_cons (ps_if (pt_cmpR op_lt (pv 1) pe_int (nomark _)) (pss_one (ps_ret (pe_tup (pa_cons pe_str (pa_cons (pv 2) (pa_cons (pv 3) (pa_cons (pe_op op_add pe_int (pe_kn D_law_next hr (pa_cons (pv 0) (pa_cons pe_int pa_nil)))) pa_nil))))))) pss_nil)
      (pss_cons (ps_if (pt_cmpR op_lt (pv 1) pe_int (nomark _)) (pss_one (ps_ret (pe_tup (pa_cons pe_str (pa_cons (pv 2) (pa_cons (pe_kn D_law_row hr (pa_cons (pv 0) (pa_cons (pe_op op_add pe_int (pe_kn D_law_next hr (pa_cons (pv 0) (pa_cons pe_int pa_nil)))) pa_nil))) pa_nil)))))) pss_nil)
      (pss_cons (ps_if (pt_cmpR op_lt (pv 1) pe_int (nomark _)) (pss_one (ps_ret (pe_tup (pa_cons pe_str (pa_cons (pv 2) (pa_cons (pe_kn D_law_name hr (pa_cons (pv 0) pa_nil)) (pa_cons (pv 3) (pa_cons (pe_op op_add pe_int (pe_kn D_law_next hr (pa_cons (pv 0) (pa_cons pe_int pa_nil)))) (pa_cons (pe_op op_add pe_int (pe_kn D_law_next hr (pa_cons (pv 0) (pa_cons pe_int pa_nil)))) pa_nil))))))))) pss_nil)
      (pss_one (ps_ret (pe_tup (pa_cons pe_str (pa_cons (pv 2) (pa_cons (pe_callTy call_tuple_of (by rfl) T.tuple (by decide +kernel) (pa_cons (pe_slice sl_list (pe_lst (pa_cons pe_str (pa_cons pe_str (pa_cons pe_str (pa_cons pe_str pa_nil))))) po_none (po_some (pe_kn D_law_next hr (pa_cons (pv 0) (pa_cons pe_int pa_nil))))) pa_nil)) pa_nil)))))))))))), ?_⟩
    -- pick, name
    refine ⟨_, rfl, p, d, 9, rfl, by decide, rg, ?_⟩
    rintro x1 H1 ⟨b, rfl, b0, b1⟩ gw1 rg1
    refine ⟨_, rfl, p, d, rfl, rg1, ?_⟩
    rintro x2 H2 ⟨n, rfl, pn⟩ gw2 rg2
    have gw12 : Gw p H H2 := gw1.trans gw2
    -- columns
    refine ⟨sz 4, fun o no => ?_⟩
    refine ⟨_, rfl, p, d, 4, rfl, by decide, rg2.same (Same.new no), ?_⟩
    rintro x3 H3 ⟨c, rfl, c0, c1⟩ gw3 rg3
    have eo := gw3.keep upd_same (rg2.free no).1
    refine ⟨1, c, rfl, rfl, _, rfl, o, _, rfl, SqL.of eo, fun o2 no2 => ?_⟩
    refine ⟨o2, _, rfl, .inl ⟨SqL.of upd_same, fun t nt => ?_⟩⟩
    have gw3' : Gw p H H3 := (gw12.trans (Gw.new no)).trans gw3
    have gw4 : ∀ u, Gw p H (upd _ t u) := fun u => (gw3'.trans (Gw.new no2)).trans (Gw.new nt)
    have rg4 : ∀ u, Rng d (upd _ t u) p := fun u => (rg3.same (Same.new no2)).same (Same.new nt)
    have hcs := take_strs (ws := ["x", "y", "column_of_12", "z1"]) (by decide +kernel) (1 + c) (by omega)
    have hcl := take_len (xs := (["x", "y", "column_of_12", "z1"] : List Str).map V.str) (1 + c) (by omega) (by decide)
    have ht : ∀ {H9 : Hp}, Gw p (upd _ t (.tup (cutV ((["x", "y", "column_of_12", "z1"] : List Str).map V.str) none (some (1 + c))))) H9 → SqT K H9 t (cutV ((["x", "y", "column_of_12", "z1"] : List Str).map V.str) none (some (1 + c))) := fun {H9} g => Rng.tk (rg4 _) g _ _ (SqT.of upd_same)
    -- relation
    refine ⟨_, rfl, _, _, rfl, rfl, _, rfl, ite2 (fun e => ?_) (fun e => ?_)⟩
    · refine ⟨_, rfl, _, rfl, _, rfl, p, d, 40, rfl, by decide, rg4 _, ?_⟩
      rintro x5 H5 ⟨z, rfl, z0, z1⟩ gw5 rg5
      refine ⟨1, z, rfl, rfl, sz 4, fun u nu => q _ _ ⟨u, .rel n _, rfl, SqT.of upd_same, pn, (CD.strs (Tk.same (Same.new nu) _ _ (ht gw5)) hcs hcl (CD.int CD.nil)), rfl⟩ (((gw4 _).trans gw5).trans (Gw.new nu)) (rg5.same (Same.new nu))⟩
    -- fact
    refine ⟨_, rfl, _, _, rfl, rfl, _, rfl, ite2 (fun e => ?_) (fun e => ?_)⟩
    · refine ⟨_, rfl, _, rfl, _, rfl, p, d, 3, rfl, by decide, rg4 _, ?_⟩
      rintro x5 H5 ⟨z, rfl, z0, z1⟩ gw5 rg5
      have ez : (1 + z : Int) = (((1 + z).toNat : Nat) : Int) := by omega
      refine ⟨1, z, rfl, rfl, p, d, (1 + z).toNat, congrArg (fun t => [V.ref p, V.int t]) ez, by omega, rg5, ?_⟩
      rintro x6 H6 ⟨r, xs, rfl, er, lx, sx⟩ gw6 rg6
      refine ⟨sz 3, fun u nu => q _ _ ⟨u, .fact n r xs, rfl, ⟨SqT.of upd_same, Tk.same (Same.new nu) _ _ (SqT.of er), sx, by omega⟩, pn, CD.nil, rfl⟩ ((((gw4 _).trans gw5).trans gw6).trans (Gw.new nu)) (rg6.same (Same.new nu))⟩
    -- structure
    refine ⟨_, rfl, _, _, rfl, rfl, _, rfl, ite2 (fun e => ?_) (fun e => ?_)⟩
    · refine ⟨_, rfl, _, rfl, p, d, rfl, rg4 _, ?_⟩
      rintro x5 H5 ⟨m, rfl, pm⟩ gw5 rg5
      refine ⟨_, rfl, _, rfl, p, d, 16, rfl, by decide, rg5, ?_⟩
      rintro x6 H6 ⟨z, rfl, z0, z1⟩ gw6 rg6
      refine ⟨1, z, rfl, rfl, _, rfl, p, d, 8, rfl, by decide, rg6, ?_⟩
      rintro x7 H7 ⟨y, rfl, y0, y1⟩ gw7 rg7
      refine ⟨1, y, rfl, rfl, sz 6, fun u nu => q _ _ ⟨u, .str n _, rfl, SqT.of upd_same, pn, (CD.str pm (CD.strs (Tk.same (Same.new nu) _ _ (ht ((gw5.trans gw6).trans gw7))) hcs hcl (CD.int (CD.int CD.nil)))), rfl⟩ (((((gw4 _).trans gw5).trans gw6).trans gw7).trans (Gw.new nu)) (rg7.same (Same.new nu))⟩
    -- layout
    · refine ⟨_, rfl, sz 4, fun o5 no5 => ?_⟩
      refine ⟨_, rfl, p, d, 5, rfl, by decide, (rg4 _).same (Same.new no5), ?_⟩
      rintro x6 H6 ⟨z, rfl, z0, z1⟩ gw6 rg6
      refine ⟨_, rfl, o5, _, rfl, SqL.of (gw6.keep upd_same ((rg4 _).free no5).1), fun o7 no7 => ?_⟩
      refine ⟨o7, _, rfl, .inl ⟨SqL.of upd_same, fun t8 nt8 => ?_⟩⟩
      refine ⟨sz 3, fun u nu => q _ _ ⟨u, .lay n _, rfl, SqT.of upd_same, pn, (CD.strs (Tk.same (Same.new nu) _ _ (SqT.of upd_same)) (take_strs (ws := ["s1", "s2", "a", "b"]) (by decide +kernel) z z0) (take_len z z0 (by decide)) CD.nil), rfl⟩
        ((((((gw4 _).trans (Gw.new no5)).trans gw6).trans (Gw.new no7)).trans (Gw.new nt8)).trans (Gw.new nu)) (((rg6.same (Same.new no7)).same (Same.new nt8)).same (Same.new nu))⟩
end
end K1
namespace K1
open PySem PySem.Spec PyProof.Rows L2 Ow Tlz
theorem ItG.key {K : PySem.W.Frag} {H : Hp} {a : Addr} {i : It} (h : ItG K H a i) : ItemAt K H (.ref a) (ier i).1 (ier i).2.1 (ier i).2.2.1 := by
  have g := h.at_
  cases i with
  | rel n c => exact ⟨a, _, rfl, g, h.n, (fun _ m => by cases m), Nat.zero_le _, .inl ⟨c, rfl, rfl, rfl⟩⟩
  | fact n r row => exact ⟨a, _, rfl, g.1, h.n, g.2.2.1, Nat.le_trans g.2.2.2 (by show 10 ≤ 1000; decide), .inr (.inr (.inr ⟨r, rfl, rfl, g.2.1⟩))⟩
  | str n c => exact ⟨a, _, rfl, g, h.n, (fun _ m => by cases m), Nat.zero_le _, .inr (.inl ⟨c, rfl, rfl, rfl⟩)⟩
  | lay n v => exact ⟨a, _, rfl, g, h.n, (fun _ m => by cases m), Nat.zero_le _, .inr (.inr (.inl ⟨[v], rfl, rfl, rfl⟩))⟩
theorem cut_drop (xs : List V) (k : Nat) : cutV xs (some (k : Int)) none = xs.drop k := by
  unfold cutV
  rw [HT.sIx_nat, HT.sIx_none]
  by_cases h : k ≤ xs.length
  · rw [Nat.min_eq_left h]
    exact List.take_of_length_le (by rw [List.length_drop]; omega)
  · rw [List.drop_of_length_le (l := xs) (i := k) (by omega), List.drop_of_length_le (by omega), List.take_nil]
theorem cut_upto (xs : List V) (k : Nat) : cutV xs none (some (k : Int)) = xs.take k := by
  rw [cut_take _ (by omega)]
  rfl
def spPlaced (K : PySem.W.Frag) : Sp := fun vs H Q _ => ∃ (l a : Addr) (i : It) (os : Its), vs = [.ref l, .ref a] ∧ SqL K H l (irf os) ∧ ItsG K H os ∧ ItG K H a i ∧ os.length ≤ 300 ∧
  ∀ p H', Same H H' → H p = none → H' p = some (.lst (irf (plc os (a, i)))) → Q (.ref p) H'
abbrev s_law_placed : Stmt := topS 32
abbrev N_law_placed : List Str := ["items", "item", "found", "at", "other", "order"]
theorem sc_law_placed : FnScope N_law_placed ["items", "item"] (defScope s_law_placed) := ⟨rfl, rfl, rfl, by decide +kernel, rfl, by decide +kernel, by decide +kernel⟩
abbrev s_law_some_items : Stmt := topS 33
abbrev N_law_some_items : List Str := ["state", "most", "items", "ordered", "item", "k"]
theorem sc_law_some_items : FnScope N_law_some_items ["state", "most"] (defScope s_law_some_items) := ⟨rfl, rfl, rfl, by decide +kernel, rfl, by decide +kernel, by decide +kernel⟩
section
variable {P : Program} {w : World} {K : PySem.W.Frag} {mg : Str → Option Value} {base : Heap}
theorem ok_placed {f : Addr} {fd : FuncData} (F : Fun K "_law_placed" "_law_placed" s_law_placed f fd) (T : Bl mg)
    (D_law_key : Kn P w K mg base 1 "_law_key" ["item"] (spLKey K))
    (D_law_key_order : Kn P w K mg base 3 "_law_key_order" ["first", "second"] (spLOrd K)) :
    FnOk P w K mg base CX0 4 f fd ["items", "item"] (spPlaced K) := by
  refine F.ok sc_law_placed (fun vs H Q E h => ?_) (fun cdv A outer s0 H vs Q E hr h => ?_)
  · obtain ⟨l, a, i, os, rfl, _⟩ := h
    rfl
  · obtain ⟨l, a, i, os, rfl, hl, hos, hi, lo, q⟩ := h
    refine ⟨_, (pss_cons (ps_set (i := 2) sc_law_placed.nd rfl (.inl rfl) (pe_lst pa_nil))
      (pss_cons (ps_set (i := 3) sc_law_placed.nd rfl (.inl rfl) pe_int)
      (pss_cons (ps_for PassesOwn.never rfl (pi_list (pv 0)) (pg_name (i := 4) sc_law_placed.nd rfl (.inl rfl)) (pss_cons (ps_set (i := 5) sc_law_placed.nd rfl (.inl rfl) (pe_kn D_law_key_order hr (pa_cons (pe_kn D_law_key hr (pa_cons (pv 4) pa_nil)) (pa_cons (pe_kn D_law_key hr (pa_cons (pv 1) pa_nil)) pa_nil))))
      (pss_one (ps_if (pt_cmpR op_ne (pv 5) pe_int (nomark _)) (pss_cons (ps_expr (pe_bm PySem.F.plainAttrs_list PySem.F.slot_list_append PySem.F.type_list_append mt_append (pv 2) (pa_cons (pv 4) pa_nil)))
      (pss_one (ps_set (i := 3) sc_law_placed.nd rfl (.inl rfl) (pe_op op_add (pv 3) (pe_callTy call_int1 (by rfl) T.int (by decide +kernel) (pa_cons (pe_cmpR op_lt (pv 5) pe_int (nomark _)) pa_nil)))))) pss_nil))))
      (pss_one (ps_ret (pe_op op_cat (pe_op op_cat (pe_slice sl_list (pv 2) po_none (po_some (pv 3))) (pe_lst (pa_cons (pv 1) pa_nil))) (pe_slice sl_list (pv 2) (po_some (pv 3)) po_none))))))), ?_⟩
    refine ⟨sz 0, fun o no => ?_⟩
    have s1 := Same.new (o := .lst []) no
    have e1 := upd_same (H := H) (a := o) (o := .lst [])
    generalize (upd H o (.lst [])) = H1 at *
    refine ⟨_, rfl, l, rfl, ⟨_, s1.seq hl⟩, for_list (K := K) (a := l) (xs := irf os) (fun j σ H4 => ∃ y4 y5 : Option V, σ = [some (.ref l), some (.ref a), some (.ref o), some (.int (((os.take j).countP fun u => decide (tOrd (te u) (te (a, i)) < 0) : Nat) : Int)), y4, y5] ∧ Same H H4 ∧
        H4 o = some (.lst (irf ((os.take j).filter fun u => decide (tOrd (te u) (te (a, i)) ≠ 0)))))
      ⟨none, none, rfl, s1, e1⟩ (fun j σ H4 _ hP => ?_) (fun j y σ H4 hy hP => ?_) (fun σ H4 hP => ?_)⟩
    · obtain ⟨_, _, _, s4, _⟩ := hP
      exact s4.seq hl
    · obtain ⟨y4, y5, rfl, s4, eo⟩ := hP
      obtain ⟨t, et, rfl⟩ := irf_get hy
      have jl : j < os.length := (List.getElem?_eq_some_iff.mp et).1
      have ht := (hos t (List.mem_of_getElem? et)).same s4
      have e2 : os.take (j + 1) = os.take j ++ [t] := take_snoc' et
      have lf : ((os.take j).filter fun u => decide (tOrd (te u) (te (a, i)) ≠ 0)).length ≤ 300 := by
        have := List.length_filter_le (fun u => decide (tOrd (te u) (te (a, i)) ≠ 0)) (os.take j)
        rw [List.length_take] at this
        omega
      refine ⟨_, rfl, _, _, _, _, rfl, ht.key, fun k1 H5 hk1 s5 => ?_⟩
      refine ⟨_, rfl, _, _, _, _, rfl, (hi.same (s4.trans s5)).key, fun k2 H6 hk2 s6 => ?_⟩
      refine ⟨k1, k2, _, _, _, _, _, _, rfl, hk1.tk (Tk.same s6), hk2, fun z H7 ez s7 => ?_⟩
      subst ez
      have s47 := (s5.trans s6).trans s7
      have eo7 := s47 _ _ eo
      have s07 := s4.trans s47
      have eord : keyOrd (ier t.2).1 (ier t.2).2.1 (ier t.2).2.2.1 (ier i).1 (ier i).2.1 (ier i).2.2.1 = tOrd (te t) (te (a, i)) := rfl
      rw [eord]
      rw [e2, List.filter_append, List.countP_append, List.filter_cons, List.countP_cons, List.filter_nil, List.countP_nil]
      generalize tOrd (te t) (te (a, i)) = z at *
      refine ⟨_, rfl, rfl, _, rfl, ite2 (fun e => ?_) (fun e => ?_)⟩
      · have ne : z ≠ 0 := fun w => by rw [w] at e; simp at e
        rw [if_pos (decide_eq_true ne), irf_app]
        refine ⟨_, rfl, .inl ⟨rfl, _, SqL.of eo7⟩, _, rfl, o, _, _, rfl, rfl, eo7, by rw [irf_len]; exact small (m := 1000) (by omega) (by decide), ?_⟩
        have s8 : Same H (upd H7 o (.lst (irf ((os.take j).filter fun u => decide (tOrd (te u) (te (a, i)) ≠ 0)) ++ [.ref t.1]))) := Same.over s07 no
        refine ⟨_, rfl, _, rfl, _, _, rfl, rfl, .inr ⟨_, rfl, _, _, rfl, rfl, ?_⟩⟩
        refine ⟨some (.ref t.1), some (.int z), ?_, s8, upd_same⟩
        cases hz : decide (z < 0) with
        | true => rfl
        | false => rfl
      · have ne : z = 0 := by
          by_cases w : z = 0
          · exact w
          · exact absurd (by simp [w]) e
        subst ne
        refine ⟨some (.ref t.1), some (.int 0), ?_, s07, ?_⟩
        · simp
        rw [eo7]
        simp
    · obtain ⟨y4, y5, rfl, s4, eo⟩ := hP
      rw [irf_len, List.take_length] at eo ⊢
      have lf := List.length_filter_le (fun u => decide (tOrd (te u) (te (a, i)) ≠ 0)) os
      have pd : plc os (a, i) = (os.filter fun u => decide (tOrd (te u) (te (a, i)) ≠ 0)).take (os.countP fun u => decide (tOrd (te u) (te (a, i)) < 0)) ++ [(a, i)] ++ (os.filter fun u => decide (tOrd (te u) (te (a, i)) ≠ 0)).drop (os.countP fun u => decide (tOrd (te u) (te (a, i)) < 0)) := rfl
      rw [pd] at q
      generalize (os.filter fun u => decide (tOrd (te u) (te (a, i)) ≠ 0)) = fs at *
      generalize (os.countP fun u => decide (tOrd (te u) (te (a, i)) < 0)) = k at *
      refine ⟨_, rfl, _, rfl, (k : Int), rfl, o, _, rfl, SqL.of eo, fun p1 n1 => ?_⟩
      rw [cut_upto]
      have s5 := Same.new (o := .lst ((irf fs).take k)) n1
      have e5 := upd_same (H := H4) (a := p1) (o := .lst ((irf fs).take k))
      generalize (upd H4 p1 (.lst ((irf fs).take k))) = H5 at *
      refine ⟨_, rfl, sz 1, fun p2 n2 => ?_⟩
      have s6 := Same.new (o := .lst [V.ref a]) n2
      have e6 := upd_same (H := H5) (a := p2) (o := .lst [V.ref a])
      generalize (upd H5 p2 (.lst [V.ref a])) = H6 at *
      refine ⟨p1, p2, _, _, rfl, rfl, s6 _ _ e5, e6, sz _ (by rw [List.length_take, irf_len]; show _ + 1 ≤ 1000; omega), fun p3 n3 => ?_⟩
      have s7 := Same.new (o := .lst ((irf fs).take k ++ [V.ref a])) n3
      have e7 := upd_same (H := H6) (a := p3) (o := .lst ((irf fs).take k ++ [V.ref a]))
      generalize (upd H6 p3 (.lst ((irf fs).take k ++ [V.ref a]))) = H7 at *
      have s47 := (s5.trans s6).trans s7
      refine ⟨_, rfl, _, rfl, (k : Int), rfl, o, _, rfl, SqL.of (s47 _ _ eo), fun p4 n4 => ?_⟩
      rw [cut_drop]
      have s8 := Same.new (o := .lst ((irf fs).drop k)) n4
      have e8 := upd_same (H := H7) (a := p4) (o := .lst ((irf fs).drop k))
      generalize (upd H7 p4 (.lst ((irf fs).drop k))) = H8 at *
      refine ⟨p3, p4, _, _, rfl, rfl, s8 _ _ e7, e8, sz _ (by rw [List.length_append, List.length_take, List.length_drop, irf_len]; show _ + 1 + _ ≤ 1000; omega), fun p5 n5 => ?_⟩
      have s08 := (s4.trans s47).trans s8
      refine q p5 _ (s08.trans (Same.new n5)) (s08.free n5) ?_
      rw [upd_same, irf_app, irf_app]
      unfold irf
      rw [List.map_take, List.map_drop]
      rfl
def spSome (K : PySem.W.Frag) : Sp := fun vs H Q _ => ∃ (p d : Addr) (m : Nat), vs = [.ref p, .int (m : Int)] ∧ m ≤ 30 ∧ Rng d H p ∧
  Drw p d H Q fun x H' => ∃ (q l o : Addr) (its : Its), x = .ref q ∧ H' q = some (.lst [.ref l, .ref o]) ∧ H' l = some (.lst (irf its)) ∧ H' o = some (.lst (irf (plcAll its))) ∧ ItsG K H' its ∧ its.length ≤ 40 ∧ l ≠ o ∧ l ≠ p ∧ o ≠ p ∧ l ≠ d ∧ o ≠ d
theorem ok_some {f : Addr} {fd : FuncData} (F : Fun K "_law_some_items" "_law_some_items" s_law_some_items f fd) (T : Bl mg)
    (D_law_next : Kn P w K mg base 3 "_law_next" ["state", "limit"] spNext)
    (D_law_item : Kn P w K mg base 7 "_law_item" ["state"] (spItemG K))
    (D_law_placed : Kn P w K mg base 4 "_law_placed" ["items", "item"] (spPlaced K)) :
    FnOk P w K mg base CX0 8 f fd ["state", "most"] (spSome K) := by
  refine F.ok sc_law_some_items (fun vs H Q E h => ?_) (fun cdv A outer s0 H vs Q E hr h => ?_)
  · obtain ⟨p, d, m, rfl, _⟩ := h
    rfl
  · obtain ⟨p, d, m, rfl, lm, rg, q⟩ := h
    refine ⟨_, (pss_cons (ps_setLc (i := 2) (own := [("k", 5)]) (g := gName 5) rfl sc_law_some_items.nd rfl rfl (sw_true rfl rfl rfl (by decide +kernel)) (pi_range1 (by rfl) T.range (pa_cons (pe_kn D_law_next hr (pa_cons (pv 0) (pa_cons (pe_op op_add (pv 1) pe_int) pa_nil))) pa_nil)) (blkOk_by (own := [("k", 5)]) (N := N_law_some_items) (sc := defScope s_law_some_items) (by decide +kernel)) (fun _ _ _ _ _ => pg_name (i := 5) sc_law_some_items.nd rfl (Or.inl rfl)) (fun _ _ _ _ _ => pts_nil) (fun _ _ _ _ _ => (pe_kn D_law_item hr (pa_cons (pv 0) pa_nil))))
      (pss_cons (ps_set (i := 3) sc_law_some_items.nd rfl (.inl rfl) (pe_lst pa_nil))
      (pss_cons (ps_for PassesOwn.never rfl (pi_list (pv 2)) (pg_name (i := 4) sc_law_some_items.nd rfl (.inl rfl)) (pss_one (ps_set (i := 3) sc_law_some_items.nd rfl (.inl rfl) (pe_kn D_law_placed hr (pa_cons (pv 3) (pa_cons (pv 4) pa_nil))))))
      (pss_one (ps_ret (pe_lst (pa_cons (pv 2) (pa_cons (pv 3) pa_nil)))))))), ?_⟩
    refine ⟨_, rfl, _, rfl, _, _, rfl, rfl, p, d, (m : Int) + 1, rfl, by omega, rg, ?_⟩
    rintro x1 H1 ⟨v, rfl, v0, v1⟩ gw1 rg1
    refine ⟨v, rfl, by omega, by omega, fun D nD => lc_range (lo := 0) (n := v.toNat) (fun j H4 => ∃ its : Its, H4 D = some (.lst (irf its)) ∧ its.length = j ∧ ItsG K H4 its ∧ Gw p H H4 ∧ Rng d H4 p)
      ⟨[], upd_same, rfl, (fun _ m => by cases m), gw1.trans (Gw.new nD), rg1.same (Same.new nD)⟩ (fun j H4 hj hP => ?_) (fun H4 hP => ?_)⟩
    · obtain ⟨its, eD, li, ig, gw4, rg4⟩ := hP
      refine ⟨rfl, ?_⟩
      refine ⟨_, rfl, p, d, rfl, rg4, ?_⟩
      rintro x H5 ⟨a, i, rfl, hi⟩ gw5 rg5
      have dn := rg1.free nD
      have eD5 := gw5.keep eD dn.1
      have tD : Tk K H5 (upd H5 D (.lst (irf its ++ [.ref a]))) := Tk.put eD5
      refine ⟨irf its, eD5, by rw [irf_len]; exact small (m := 1000) (by omega) (by decide), its ++ [(a, i)], by rw [upd_same, irf_app]; rfl, by rw [List.length_append, li]; rfl, ((ig.tk (Rng.tk rg4 gw5)).tk tD).app (ItsG.one (t := (a, i)) (hi.tk tD)), ?_, rg5.upd dn⟩
      exact Gw.over (gw4.trans gw5) (gw1.free nD dn.1)
    · obtain ⟨its, eD, li, ig, gw4, rg4⟩ := hP
      have dn := rg1.free nD
      refine ⟨sz 0, fun o no => ?_⟩
      have s5 := Same.new (o := .lst []) no
      have e5 := upd_same (H := H4) (a := o) (o := .lst [])
      have noD : o ≠ D := fun z => by rw [z, eD] at no; cases no
      have nop := rg4.free no
      generalize (upd H4 o (.lst [])) = H5 at *
      refine ⟨_, rfl, D, rfl, ⟨_, SqL.of (s5 _ _ eD)⟩, for_list (K := K) (a := D) (xs := irf its) (fun j σ H6 => ∃ (o : Addr) (y4 : Option V), σ = [some (.ref p), some (.int (m : Int)), some (.ref D), some (.ref o), y4, none] ∧ Same H4 H6 ∧ o ≠ D ∧ (o ≠ p ∧ o ≠ d) ∧
          H6 o = some (.lst (irf (plcAll (its.take j)))))
        ⟨o, none, rfl, s5, noD, nop, e5⟩ (fun j σ H6 _ hP => ?_) (fun j y σ H6 hy hP => ?_) (fun σ H6 hP => ?_)⟩
      · obtain ⟨_, _, _, s6, _⟩ := hP
        exact SqL.of (s6 _ _ eD)
      · obtain ⟨o, y4, rfl, s6, no1, no2, eo⟩ := hP
        obtain ⟨t, et, rfl⟩ := irf_get hy
        have jl : j < its.length := (List.getElem?_eq_some_iff.mp et).1
        have ig6 := ig.same s6
        have sub : ItsG K H6 (its.take j) := fun u m => ig6 u (List.mem_of_mem_take m)
        obtain ⟨_, _, ln, mm⟩ := plcAll_ok (its.take j) sub.sc
        refine ⟨_, rfl, _, rfl, o, t.1, t.2, plcAll (its.take j), rfl, SqL.of eo, (fun u m => sub u (mm u m)), ig6 t (List.mem_of_getElem? et), ?_, fun p7 H7 s7 n7 e7 => ?_⟩
        · rw [List.length_take] at ln
          omega
        · refine ⟨p7, _, rfl, s6.trans s7, (fun z => by rw [z, s6 _ _ eD] at n7; cases n7), (rg4.same s6).free n7, ?_⟩
          rw [take_snoc' et, plcAll_snoc]
          exact e7
      · obtain ⟨o, y4, rfl, s6, no1, no2, eo⟩ := hP
        rw [irf_len, List.take_length] at eo
        refine ⟨_, rfl, _, rfl, sz 2, fun u nu => q _ _ ⟨u, D, o, its, rfl, upd_same, Same.new nu _ _ (s6 _ _ eD), Same.new nu _ _ eo, (ig.same s6).same (Same.new nu), by omega, no1.symm, dn.1, no2.1, dn.2, no2.2⟩ ?_ ((rg4.same s6).same (Same.new nu))⟩
        exact (gw4.trans (Gw.same s6)).trans (Gw.new nu)
end
end K1
namespace K1
open PySem PySem.Spec PyProof.Rows L2 Ow Tlz
/-- the tables' content has data -/
structure TabG (K : PySem.W.Frag) (H : Hp) (R : Tb) (F : Fb) (S : Tb) (L : List (Str × V)) : Prop where
  r : ∀ n q c, valG R n = some (q, c) → Pr n ∧ c.length = 2 ∧ CD K H c
  s : ∀ n q c, valG S n = some (q, c) → Pr n ∧ c.length = 4 ∧ CD K H c
  l : ∀ n v, valG L n = some v → Pr n ∧ CD K H [v]
  f : ∀ n, (valG F n).isSome = true → Pr n
theorem TabG.same {K : PySem.W.Frag} {H H' : Hp} {R S : Tb} {F : Fb} {L : List (Str × V)} (s : Same H H') (h : TabG K H R F S L) : TabG K H' R F S L :=
  ⟨fun n q c e => ⟨(h.r n q c e).1, (h.r n q c e).2.1, (h.r n q c e).2.2.same s⟩, fun n q c e => ⟨(h.s n q c e).1, (h.s n q c e).2.1, (h.s n q c e).2.2.same s⟩, fun n v e => ⟨(h.l n v e).1, (h.l n v e).2.same s⟩, h.f⟩
theorem TabG.of {K : PySem.W.Frag} {H : Hp} {R S : Tb} {F : Fb} {L : List (Str × V)} {os : Its} (h : Rep os R F S L) (g : ItsG K H os) : TabG K H R F S L := by
  refine ⟨fun n q c e => ?_, fun n q c e => ?_, fun n v e => ?_, fun n e => ?_⟩
  · obtain ⟨a, m⟩ := (h.r n c).mp ⟨q, e⟩
    exact ⟨(g _ m).n, (g _ m).l, (g _ m).c⟩
  · obtain ⟨a, m⟩ := (h.s n c).mp ⟨q, e⟩
    exact ⟨(g _ m).n, (g _ m).l, (g _ m).c⟩
  · obtain ⟨a, m⟩ := (h.l n v).mp e
    exact ⟨(g _ m).n, (g _ m).c⟩
  · rcases (h.fn n).mp e with ⟨c, a, m⟩ | ⟨r, row, a, m⟩
    · exact (g _ m).n
    · exact (g _ m).n
def spAll (K : PySem.W.Frag) (C : Addr) : Sp := fun vs H Q _ => ∃ (x dr df ds dl : Addr) (Z : Addr → Prop) (R S : Tb) (F : Fb) (L : List (Str × V)) (b : Nat), vs = [.ref x] ∧ StAt K C Z H x dr df ds dl R F S L b ∧ b ≤ 300 ∧ TabG K H R F S L ∧
  R.length < 64 ∧ F.length < 64 ∧ S.length < 64 ∧ L.length < 64 ∧
  ∀ (its : Its) (p : Addr) (ys fs ss ls : List Str) H', ys.Perm (R.map (·.1)) → sortedS ys = true → fs.Perm (F.map (·.1)) → sortedS fs = true → ss.Perm (S.map (·.1)) → sortedS ss = true → ls.Perm (L.map (·.1)) → sortedS ls = true →
    its.map te = allE R F S L ys fs ss ls → Same H H' → H p = none → H' p = some (.lst (irf its)) → ItsG K H' its → Q (.ref p) H'
abbrev sAll : Stmt := inClass sState 1
abbrev NAll : List Str := ["self", "name", "items", "row"]
theorem scAll : FnScope NAll ["self"] (defScope sAll) := ⟨rfl, rfl, rfl, by decide +kernel, rfl, by decide +kernel, by decide +kernel⟩
theorem pa_star_K {X : Cx} {K : PySem.W.Frag} (h : X.K = K) {e : Expr} {p : Pos} {es : List Expr} {te : TE} {t : TA} (he : PE X e te) (hr : PA X es t) : PA X (.Starred e p :: es) (StX.tStar K te t) := by
  subst h
  exact StX.pa_star he hr
theorem key_some {β : Type} {l : List (Str × β)} {ys : List Str} {n : Str} {i : Nat} (p : ys.Perm (l.map (·.1))) (e : ys[i]? = some n) : ∃ b, valG l n = some b := by
  have h := valG_key.mp (p.mem_iff.mp (List.mem_of_getElem? e))
  cases z : valG l n with
  | none => rw [z] at h; cases h
  | some b => exact ⟨b, rfl⟩
theorem dgetL {H : Hp} {d : Addr} {L : List (Str × V)} {n : Str} {v : V} (h : Rd H d (.dK (kvG id L))) (e : valG L n = some v) : DGet H d (.str n) (some v) := by
  refine .inl ⟨kvG id L, Sum.inr n, h, rfl, ?_⟩
  rw [kvG_val, e]
  rfl
theorem cOf_eq {R : Tb} {n : Str} {q : Addr} {c : List V} (e : valG R n = some (q, c)) : cOf R n = c := by unfold cOf; rw [e]
theorem rOf_eq {F : Fb} {n : Str} {q : Addr} {c : List (Addr × List V)} (e : valG F n = some (q, c)) : rOf F n = c := by unfold rOf; rw [e]
theorem lOf_eq {L : List (Str × V)} {n : Str} {v : V} (e : valG L n = some v) : lOf L n = v := by unfold lOf; rw [e]
theorem kvL_keys (L : List (Str × V)) : (kvG id L).map (·.1) = (L.map (·.1)).map Sum.inr := by
  unfold kvG
  rw [List.map_map, List.map_map]
  rfl
theorem kvF_keys (F : Fb) : (kvF F).map (·.1) = (F.map (·.1)).map Sum.inr := by
  unfold kvF kvG
  rw [List.map_map, List.map_map]
  rfl
theorem te_app (its jts : Its) : (its ++ jts).map te = its.map te ++ jts.map te := List.map_append
section
variable {P : Program} {w : World} {K : PySem.W.Frag} {mg : Str → Option Value} {base : Heap} {C : Addr}
theorem ok_all {f : Addr} {fd : FuncData} (F0 : Fun K "all_items" "State.all_items" sAll f fd) (T : Bl mg) (X : Txt K mg C) :
    FnOk P w K mg base CX0 1 f fd ["self"] (spAll K C) := by
  refine F0.ok scAll (fun vs H Q E h => ?_) (fun cdv A outer s H vs Q E hr h => ?_)
  · obtain ⟨x, dr, df, ds, dl, Z, R, S, F, L, b, rfl, _⟩ := h
    rfl
  · obtain ⟨x, dr, df, ds, dl, Z, R, S, F, L, b, rfl, st, hb, tg, lR, lF, lS, lL, q⟩ := h
    have hu := hu_of hr
    refine ⟨_, (pss_cons (ps_setLc (i := 2) (own := [("name", 1)]) (g := gName 1) rfl scAll.nd rfl rfl (sw_true rfl rfl rfl (by decide +kernel)) (pi_list (pe_callB (call_sortedD rfl) (by rfl) T.sorted (by decide +kernel) (pa_cons (pe_fld (pv 0) rfl) pa_nil))) (blkOk_by (own := [("name", 1)]) (N := NAll) (sc := defScope sAll) (by decide +kernel)) (fun _ _ _ _ _ => pg_name (i := 1) scAll.nd rfl (Or.inl rfl)) (fun _ _ _ _ _ => pts_nil)
        (fun _ _ _ _ _ => (pe_tup (pa_cons pe_str (pa_cons (pv 1) (pa_star_K (K := K) rfl (pe_dget hu (pe_fld_K (K := K) rfl (pv 0) rfl) (pv 1) (fun _ _ => rfl)) pa_nil))))))
      (pss_cons (ps_for PassesOwn.never rfl (pi_list (pe_callB (call_sortedD rfl) (by rfl) T.sorted (by decide +kernel) (pa_cons (pe_fld (pv 0) rfl) pa_nil))) (pg_name (i := 1) scAll.nd rfl (.inr rfl)) (pss_one (ps_expr (pe_bm PySem.F.plainAttrs_list PySem.F.slot_list_extend PySem.F.type_list_extend mt_extend (pv 2) (pa_cons (pe_lc (own := [("row", 3)]) (g := gName 3) rfl scAll.nd (pi_list (pe_dget hu (pe_fld (pv 0) rfl) (pv 1) (fun _ _ => rfl))) (blkOk_by (own := [("row", 3)]) (N := NAll) (sc := defScope sAll) (by decide +kernel)) (fun _ _ _ _ _ => pg_name (i := 3) scAll.nd rfl (Or.inl rfl)) (fun _ _ _ _ _ => pts_nil) (fun _ _ _ _ _ => (pe_tup (pa_cons pe_str (pa_cons (pv 1) (pa_cons (pv 3) pa_nil)))))) pa_nil)))))
      (pss_cons (ps_for PassesOwn.never rfl (pi_list (pe_callB (call_sortedD rfl) (by rfl) T.sorted (by decide +kernel) (pa_cons (pe_fld (pv 0) rfl) pa_nil))) (pg_name (i := 1) scAll.nd rfl (.inr rfl)) (pss_one (ps_expr (pe_bm PySem.F.plainAttrs_list PySem.F.slot_list_append PySem.F.type_list_append mt_append (pv 2) (pa_cons (pe_tup (pa_cons pe_str (pa_cons (pv 1) (StX.pa_star (pe_dget hu (pe_fld (pv 0) rfl) (pv 1) (fun _ _ => rfl)) pa_nil)))) pa_nil)))))
      (pss_cons (ps_for PassesOwn.never rfl (pi_list (pe_callB (call_sortedD rfl) (by rfl) T.sorted (by decide +kernel) (pa_cons (pe_fld (pv 0) rfl) pa_nil))) (pg_name (i := 1) scAll.nd rfl (.inr rfl)) (pss_one (ps_expr (pe_bm PySem.F.plainAttrs_list PySem.F.slot_list_append PySem.F.type_list_append mt_append (pv 2) (pa_cons (pe_tup (pa_cons pe_str (pa_cons (pv 1) (pa_cons (pe_dget hu (pe_fld (pv 0) rfl) (pv 1) (fun _ _ => rfl)) pa_nil)))) pa_nil)))))
      (pss_one (ps_ret (pv 2))))))), ?_⟩
    obtain ⟨dx, ob⟩ := st.ob
    -- the relations
    refine ⟨_, rfl, x, C, dx, _, _, rfl, ob, X.cl, X.nR, flds_r _ _ _ _, dr, kvR R, R.map (·.1), rfl, .inl st.r, kvR_keys R, by rw [List.length_map]; exact lR, fun ys yp py sy nyp => ?_⟩
    have s1 := Same.new (o := .lst (ys.map V.str)) nyp
    have e1 := upd_same (H := H) (a := yp) (o := .lst (ys.map V.str))
    generalize (upd H yp (.lst (ys.map V.str))) = H1 at *
    have lys : ys.length < 64 := by rw [py.length_eq, List.length_map]; exact lR
    refine ⟨yp, rfl, ⟨_, SqL.of e1⟩, fun D nD => lc_list (K := K) (a := yp) (xs := ys.map V.str) (fun i H4 => ∃ its : Its, Same H1 H4 ∧ H4 D = some (.lst (irf its)) ∧ ItsG K H4 its ∧ its.length = i ∧ its.map te = (ys.take i).map fun n => ier (.rel n (cOf R n)))
      ⟨[], Same.new nD, upd_same, (fun _ m => nomatch m), rfl, rfl⟩ (fun i H4 _ hP => ?_) (fun i y H4 hy hP => ?_) (fun H4 hP => ?_)⟩
    · obtain ⟨_, s4, _⟩ := hP
      exact SqL.of (s4 _ _ e1)
    · obtain ⟨its, s4, eD, io, li, er⟩ := hP
      obtain ⟨n, en, rfl⟩ := strs_get hy
      have il : i < ys.length := (List.getElem?_eq_some_iff.mp en).1
      obtain ⟨⟨qa, c⟩, ec⟩ := key_some py en
      obtain ⟨pn, lc, cd⟩ := tg.r n qa c ec
      have s04 := s1.trans s4
      have st4 := st.same s04
      refine ⟨rfl, ?_⟩
      refine ⟨_, rfl, _, rfl, x, C, dx, _, _, rfl, s04 _ _ ob, X.cl, X.nR, flds_r _ _ _ _, _, rfl, dr, _, rfl, dget_n (.inl st4.r) ec, qa, c, rfl, .inl (st4.rt _ (valG_mem ec)), ?_, fun u nu => ?_⟩
      · show (V.str _ :: V.str n :: (c ++ [])).length ≤ sizeLine
        rw [List.append_nil, List.length_cons, List.length_cons, lc]
        exact sz 4
      have s6 := Same.new (o := .tup (V.str "relation" :: V.str n :: (c ++ []))) nu
      have e6 := upd_same (H := H4) (a := u) (o := .tup (V.str "relation" :: V.str n :: (c ++ [])))
      rw [List.append_nil] at s6 e6
      have eu : (upd H4 u (.tup (V.str "relation" :: V.str n :: (c ++ [])))) = (upd H4 u (.tup (V.str "relation" :: V.str n :: c))) := by rw [List.append_nil]
      refine eu ▸ ?_
      generalize (upd H4 u (.tup (V.str "relation" :: V.str n :: c))) = H6 at *
      have eD6 := s6 _ _ eD
      have tD : Tk K H6 (upd H6 D (.lst (irf its ++ [.ref u]))) := Tk.put eD6
      refine ⟨irf its, eD6, by rw [irf_len]; exact small (m := 1000) (by omega) (by decide), its ++ [(u, .rel n c)], Same.over (s4.trans s6) nD, by rw [upd_same, irf_app]; rfl, ((io.same s6).tk tD).app (ItsG.one (t := (u, It.rel n c)) ⟨tD _ _ (SqT.of e6), pn, (cd.same (s04.trans s6)).tk tD, lc⟩), by rw [List.length_append, li]; rfl, ?_⟩
      rw [te_app, take_snoc' en, List.map_append, ← er]
      show _ = _ ++ [ier (.rel n (cOf R n))]
      rw [cOf_eq ec]
      rfl
    obtain ⟨its, s4, eD, io, li, er⟩ := hP
    rw [List.length_map] at li
    rw [List.length_map, List.take_length] at er
    have s04 := s1.trans s4
    have nDH : H D = none := s1.free nD
    clear e1 s1 nyp s4
    have st4 := st.same s04
    -- the facts
    refine ⟨_, rfl, x, C, dx, _, _, rfl, s04 _ _ ob, X.cl, X.nF, flds_f _ _ _ _, df, kvF F, F.map (·.1), rfl, .inl st4.f, kvF_keys F, by rw [List.length_map]; exact lF, fun fs fp pf sf nfp => ?_⟩
    have s5 := s04.trans (Same.new (o := .lst (fs.map V.str)) nfp)
    have e5 := upd_same (H := H4) (a := fp) (o := .lst (fs.map V.str))
    have eD5 := (Same.new (o := .lst (fs.map V.str)) nfp) _ _ eD
    have io5 := io.same (K := K) (Same.new (o := .lst (fs.map V.str)) nfp)
    have nfD : fp ≠ D := fun z => by rw [z, eD] at nfp; cases nfp
    generalize (upd H4 fp (.lst (fs.map V.str))) = H5 at *
    have lfs : fs.length < 64 := by rw [pf.length_eq, List.length_map]; exact lF
    refine ⟨fp, rfl, ⟨_, SqL.of e5⟩, for_list (K := K) (a := fp) (xs := fs.map V.str) (fun i σ H7 => ∃ (y1 : Option V) (its : Its), σ = [some (.ref x), y1, some (.ref D), none] ∧ Same H H7 ∧ H7 fp = some (.lst (fs.map V.str)) ∧ H7 D = some (.lst (irf its)) ∧ ItsG K H7 its ∧ its.length ≤ 64 + 300 * i ∧
        its.map te = ys.map (fun n => ier (.rel n (cOf R n))) ++ (fs.take i).flatMap fun n => (rOf F n).map fun t => ier (.fact n t.1 t.2))
      ⟨none, its, rfl, s5, e5, eD5, io5, by omega, by rw [List.take_zero, List.flatMap_nil, List.append_nil]; exact er⟩ (fun i σ H7 _ hP => ?_) (fun i y σ H7 hy hP => ?_) (fun σ H7 hP => ?_)⟩
    · obtain ⟨_, _, _, _, h, _⟩ := hP
      exact SqL.of h
    · obtain ⟨y1, its, rfl, s7, ef7, eD, io, li, er⟩ := hP
      obtain ⟨n, en, rfl⟩ := strs_get hy
      have il : i < fs.length := (List.getElem?_eq_some_iff.mp en).1
      obtain ⟨⟨qa, rs⟩, ec⟩ := key_some pf en
      have pn := tg.f n (by rw [ec]; rfl)
      have st7 := st.same s7
      obtain ⟨hqa, ro, lrs⟩ := st7.ft _ (valG_mem ec)
      have hqa' : H7 qa = some (.lst (rrefs rs)) := hqa
      have ro' : RowsOk K H7 rs := ro
      have lrs' : rs.length ≤ b := lrs
      refine ⟨_, rfl, .inl ⟨rfl, _, SqL.of eD⟩, _, rfl, x, C, dx, _, _, rfl, s7 _ _ ob, X.cl, X.nF, flds_f _ _ _ _, _, rfl, df, _, rfl, dgetF (.inl st7.f) ec, qa, rfl, ⟨_, SqL.of hqa'⟩, fun E2 nE => lc_list (K := K) (a := qa) (xs := rrefs rs) (fun j H8 => ∃ jts : Its, Same H7 H8 ∧ H8 E2 = some (.lst (irf jts)) ∧ ItsG K H8 jts ∧ jts.length = j ∧ jts.map te = (rs.take j).map fun t => ier (.fact n t.1 t.2))
        ⟨[], Same.new nE, upd_same, (fun _ m => nomatch m), rfl, rfl⟩ (fun j H8 _ hP => ?_) (fun j y H8 hy hP => ?_) (fun H8 hP => ?_)⟩
      · obtain ⟨_, s8, _⟩ := hP
        exact SqL.of (s8 _ _ hqa')
      · obtain ⟨jts, s8, eE, jo, lj, jr⟩ := hP
        obtain ⟨t, et, rfl⟩ := rrefs_get hy
        obtain ⟨ht, st', lt⟩ := (ro'.same s8) t (List.mem_of_getElem? et)
        have jl : j < rs.length := (List.getElem?_eq_some_iff.mp et).1
        refine ⟨rfl, ?_⟩
        refine ⟨_, rfl, _, rfl, sz 3, fun u nu => ?_⟩
        have s9 := Same.new (o := .tup [V.str "fact", .str n, .ref t.1]) nu
        have e9 := upd_same (H := H8) (a := u) (o := .tup [V.str "fact", .str n, .ref t.1])
        generalize (upd H8 u (.tup [V.str "fact", .str n, .ref t.1])) = H9 at *
        have eE9 := s9 _ _ eE
        have tE : Tk K H9 (upd H9 E2 (.lst (irf jts ++ [.ref u]))) := Tk.put eE9
        refine ⟨irf jts, eE9, by rw [irf_len]; exact small (m := 1000) (by omega) (by decide), jts ++ [(u, .fact n t.1 t.2)], Same.over (s8.trans s9) nE, by rw [upd_same, irf_app]; rfl, ((jo.same s9).tk tE).app (ItsG.one (t := (u, It.fact n t.1 t.2)) ⟨⟨tE _ _ (SqT.of e9), tE _ _ (Tk.same s9 _ _ ht), st', lt⟩, pn, CD.nil, rfl⟩), by rw [List.length_append, lj]; rfl, ?_⟩
        rw [te_app, take_snoc' et, List.map_append, ← jr]
        rfl
      · obtain ⟨jts, s8, eE, jo, lj, jr⟩ := hP
        rw [rrefs_len] at lj
        rw [rrefs_len, List.take_length] at jr
        have eD8 := s8 _ _ eD
        have nDE : E2 ≠ D := fun z => by rw [z, eD] at nE; cases nE
        refine ⟨D, E2, irf its, irf jts, rfl, rfl, eD8, eE, ?_, ?_⟩
        · rw [irf_len, irf_len]
          exact Nat.le_trans (show its.length + jts.length ≤ 30000 by omega) (by decide)
        · have tD : Tk K H8 (upd H8 D (.lst (irf its ++ irf jts))) := Tk.put eD8
          refine ⟨_, its ++ jts, rfl, Same.over (s7.trans s8) nDH, by rw [upd_ne nfD]; exact s8 _ _ ef7, by rw [upd_same, irf_app], ((io.same s8).tk tD).app (jo.tk tD), by rw [List.length_append]; omega, ?_⟩
          rw [te_app, take_snoc' en, List.flatMap_append, er, jr, List.append_assoc]
          show _ = _ ++ (_ ++ List.flatMap _ [n])
          rw [List.flatMap_cons, List.flatMap_nil, List.append_nil, rOf_eq ec]
    obtain ⟨y1, its, rfl, s7, _, eD, io, li, er⟩ := hP
    rw [List.length_map] at li
    rw [List.length_map, List.take_length] at er
    clear s5 e5 eD5 io5 nfp nfD st4 s04
    have st7 := st.same s7
    -- the structures
    refine ⟨_, rfl, x, C, dx, _, _, rfl, s7 _ _ ob, X.cl, X.nS, flds_s _ _ _ _, ds, kvR S, S.map (·.1), rfl, .inl st7.s, kvR_keys S, by rw [List.length_map]; exact lS, fun ss sp ps ss' nsp => ?_⟩
    have s8 := s7.trans (Same.new (o := .lst (ss.map V.str)) nsp)
    have e8 := upd_same (H := H7) (a := sp) (o := .lst (ss.map V.str))
    have eD8 := (Same.new (o := .lst (ss.map V.str)) nsp) _ _ eD
    have io8 := io.same (K := K) (Same.new (o := .lst (ss.map V.str)) nsp)
    have nsD : sp ≠ D := fun z => by rw [z, eD] at nsp; cases nsp
    generalize (upd H7 sp (.lst (ss.map V.str))) = H8 at *
    have lss : ss.length < 64 := by rw [ps.length_eq, List.length_map]; exact lS
    refine ⟨sp, rfl, ⟨_, SqL.of e8⟩, for_list (K := K) (a := sp) (xs := ss.map V.str) (fun i σ H9 => ∃ (y1 : Option V) (its : Its), σ = [some (.ref x), y1, some (.ref D), none] ∧ Same H H9 ∧ H9 sp = some (.lst (ss.map V.str)) ∧ H9 D = some (.lst (irf its)) ∧ ItsG K H9 its ∧ its.length ≤ 20000 + i ∧
        its.map te = ys.map (fun n => ier (.rel n (cOf R n))) ++ (fs.flatMap fun n => (rOf F n).map fun t => ier (.fact n t.1 t.2)) ++ (ss.take i).map fun n => ier (.str n (cOf S n)))
      ⟨_, its, rfl, s8, e8, eD8, io8, by omega, by rw [List.take_zero, List.map_nil, List.append_nil]; exact er⟩ (fun i σ H9 _ hP => ?_) (fun i y σ H9 hy hP => ?_) (fun σ H9 hP => ?_)⟩
    · obtain ⟨_, _, _, _, h, _⟩ := hP
      exact SqL.of h
    · obtain ⟨y1, its, rfl, s9, es9, eD, io, li, er⟩ := hP
      obtain ⟨n, en, rfl⟩ := strs_get hy
      have il : i < ss.length := (List.getElem?_eq_some_iff.mp en).1
      obtain ⟨⟨qa, c⟩, ec⟩ := key_some ps en
      obtain ⟨pn, lc, cd⟩ := tg.s n qa c ec
      have st9 := st.same s9
      refine ⟨_, rfl, .inl ⟨rfl, _, SqL.of eD⟩, _, rfl, _, rfl, x, C, dx, _, _, rfl, s9 _ _ ob, X.cl, X.nS, flds_s _ _ _ _, _, rfl, ds, _, rfl, dget_n (.inl st9.s) ec, qa, c, rfl, .inl (st9.st _ (valG_mem ec)), ?_, fun u nu => ?_⟩
      · show (V.str _ :: V.str n :: (c ++ [])).length ≤ sizeLine
        rw [List.append_nil, List.length_cons, List.length_cons, lc]
        exact sz 6
      have eu : (upd H9 u (.tup (V.str "structure" :: V.str n :: (c ++ [])))) = (upd H9 u (.tup (V.str "structure" :: V.str n :: c))) := by rw [List.append_nil]
      refine eu ▸ ?_
      have s6 := Same.new (o := .tup (V.str "structure" :: V.str n :: c)) nu
      have e6 := upd_same (H := H9) (a := u) (o := .tup (V.str "structure" :: V.str n :: c))
      generalize (upd H9 u (.tup (V.str "structure" :: V.str n :: c))) = H6 at *
      have eD6 := s6 _ _ eD
      have tD : Tk K H6 (upd H6 D (.lst (irf its ++ [.ref u]))) := Tk.put eD6
      refine ⟨D, irf its, _, rfl, rfl, eD6, by rw [irf_len]; exact Nat.lt_of_le_of_lt (show its.length ≤ 30000 by omega) (by decide), ?_⟩
      refine ⟨_, its ++ [(u, .str n c)], rfl, Same.over (s9.trans s6) nDH, by rw [upd_ne nsD]; exact s6 _ _ es9, by rw [upd_same, irf_app]; rfl, ((io.same s6).tk tD).app (ItsG.one (t := (u, It.str n c)) ⟨tD _ _ (SqT.of e6), pn, (cd.same (s9.trans s6)).tk tD, lc⟩), by rw [List.length_append]; show _ + 1 ≤ _; omega, ?_⟩
      rw [te_app, take_snoc' en, List.map_append, er, List.append_assoc]
      show _ = _ ++ (_ ++ [ier (.str n (cOf S n))])
      rw [cOf_eq ec]
      rfl
    obtain ⟨y1, its, rfl, s9, _, eD, io, li, er⟩ := hP
    rw [List.length_map] at li
    rw [List.length_map, List.take_length] at er
    clear s8 e8 eD8 io8 nsp nsD st7 s7
    have st9 := st.same s9
    -- the layouts
    refine ⟨_, rfl, x, C, dx, _, _, rfl, s9 _ _ ob, X.cl, X.nL, flds_l _ _ _ _, dl, kvG id L, L.map (·.1), rfl, .inl st9.l, kvL_keys L, by rw [List.length_map]; exact lL, fun ls lp pl sl nlp => ?_⟩
    have s10 := s9.trans (Same.new (o := .lst (ls.map V.str)) nlp)
    have e10 := upd_same (H := H9) (a := lp) (o := .lst (ls.map V.str))
    have eD10 := (Same.new (o := .lst (ls.map V.str)) nlp) _ _ eD
    have io10 := io.same (K := K) (Same.new (o := .lst (ls.map V.str)) nlp)
    have nlD : lp ≠ D := fun z => by rw [z, eD] at nlp; cases nlp
    generalize (upd H9 lp (.lst (ls.map V.str))) = H10 at *
    have lls : ls.length < 64 := by rw [pl.length_eq, List.length_map]; exact lL
    refine ⟨lp, rfl, ⟨_, SqL.of e10⟩, for_list (K := K) (a := lp) (xs := ls.map V.str) (fun i σ H11 => ∃ (y1 : Option V) (its : Its), σ = [some (.ref x), y1, some (.ref D), none] ∧ Same H H11 ∧ H11 lp = some (.lst (ls.map V.str)) ∧ H11 D = some (.lst (irf its)) ∧ ItsG K H11 its ∧ its.length ≤ 25000 + i ∧
        its.map te = ys.map (fun n => ier (.rel n (cOf R n))) ++ (fs.flatMap fun n => (rOf F n).map fun t => ier (.fact n t.1 t.2)) ++ ss.map (fun n => ier (.str n (cOf S n))) ++ (ls.take i).map fun n => ier (.lay n (lOf L n)))
      ⟨_, its, rfl, s10, e10, eD10, io10, by omega, by rw [List.take_zero, List.map_nil, List.append_nil]; exact er⟩ (fun i σ H11 _ hP => ?_) (fun i y σ H11 hy hP => ?_) (fun σ H11 hP => ?_)⟩
    · obtain ⟨_, _, _, _, h, _⟩ := hP
      exact SqL.of h
    · obtain ⟨y1, its, rfl, s11, es11, eD, io, li, er⟩ := hP
      obtain ⟨n, en, rfl⟩ := strs_get hy
      have il : i < ls.length := (List.getElem?_eq_some_iff.mp en).1
      obtain ⟨v, ec⟩ := key_some pl en
      obtain ⟨pn, cd⟩ := tg.l n v ec
      have st11 := st.same s11
      refine ⟨_, rfl, .inl ⟨rfl, _, SqL.of eD⟩, _, rfl, _, rfl, x, C, dx, _, _, rfl, s11 _ _ ob, X.cl, X.nL, flds_l _ _ _ _, _, rfl, dl, _, rfl, dgetL (.inl st11.l) ec, sz 3, fun u nu => ?_⟩
      have s6 := Same.new (o := .tup [V.str "layout", V.str n, v]) nu
      have e6 := upd_same (H := H11) (a := u) (o := .tup [V.str "layout", V.str n, v])
      generalize (upd H11 u (.tup [V.str "layout", V.str n, v])) = H6 at *
      have eD6 := s6 _ _ eD
      have tD : Tk K H6 (upd H6 D (.lst (irf its ++ [.ref u]))) := Tk.put eD6
      refine ⟨D, irf its, _, rfl, rfl, eD6, by rw [irf_len]; exact Nat.lt_of_le_of_lt (show its.length ≤ 30000 by omega) (by decide), ?_⟩
      refine ⟨_, its ++ [(u, .lay n v)], rfl, Same.over (s11.trans s6) nDH, by rw [upd_ne nlD]; exact s6 _ _ es11, by rw [upd_same, irf_app]; rfl, ((io.same s6).tk tD).app (ItsG.one (t := (u, It.lay n v)) ⟨tD _ _ (SqT.of e6), pn, (cd.same (s11.trans s6)).tk tD, rfl⟩), by rw [List.length_append]; show _ + 1 ≤ _; omega, ?_⟩
      rw [te_app, take_snoc' en, List.map_append, er, List.append_assoc]
      show _ = _ ++ (_ ++ [ier (.lay n (lOf L n))])
      rw [lOf_eq ec]
      rfl
    · obtain ⟨y1, its, rfl, s11, _, eD, io, li, er⟩ := hP
      rw [List.length_map, List.take_length] at er
      exact ⟨_, rfl, q its D ys fs ss ls _ py sy pf sf ps ss' pl sl er s11 nDH eD io⟩
end
end K1
namespace K1
open PySem PySem.Spec PyProof.Rows L2 Ow Tlz
structure Sta (P : Program) (w : World) (K : PySem.W.Frag) (mg : Str → Option Value) (base : Heap) (C : Addr) : Prop where
  ex : ∃ (f : Addr) (fd : FuncData) (a0 : Addr) (ds : List Value), Mk K C f ∧ FnOk P w K mg base CX0 6 f fd ["self", "items"] (spInit K C) ∧ FnOk P w K mg base CX0 6 f fd ["self", "items"] (spInit0 K C) ∧
    Binds K fd ["self", "items"] [] ∧ Binds K fd ["self", "items"] ds ∧ Vals [V.ref a0] ds ∧ ∀ H : Hp, SqT K H a0 []
theorem same_make {H : Hp} {x dx C : Addr} (hx : H x = none) (hd : H dx = none) : Same H (upd (upd H dx (.own x)) x (.ins C dx [])) := fun b o e => by
  rw [upd_ne (ne_of_none e hx), upd_ne (ne_of_none e hd)]
  exact e
theorem same_made {H H' : Hp} {x dx C : Addr} (hx : H x = none) (hd : H dx = none) (g : Gw x (upd (upd H dx (.own x)) x (.ins C dx [])) H') : Same H H' := fun b o e =>
  g b o (ne_of_none e hx) (same_make hx hd b o e)
abbrev sHas : Stmt := inClass sState 2
abbrev NHas : List Str := ["self", "relation", "row", "rows", "at"]
theorem scHas : FnScope NHas ["self", "relation", "row"] (defScope sHas) := ⟨rfl, rfl, rfl, by decide +kernel, rfl, by decide +kernel, by decide +kernel⟩
def HasRow (F : Fb) (n : Str) (row : List V) : Prop := ∃ q rs, valG F n = some (q, rs) ∧ ∃ r, (r, row) ∈ rs
def spHas (K : PySem.W.Frag) (C : Addr) : Sp := fun vs H Q _ => ∃ (x r : Addr) (n : Str) (row : List V) (dr df ds dl : Addr) (Z : Addr → Prop) (R S : Tb) (F : Fb) (L : List (Str × V)) (b : Nat), vs = [.ref x, .str n, .ref r] ∧
  StAt K C Z H x dr df ds dl R F S L b ∧ b ≤ 900 ∧ SqT K H r row ∧ (∀ v ∈ row, Scal v) ∧ row.length ≤ 10 ∧ (∀ m q rs, valG F m = some (q, rs) → SrtS rs) ∧
  ∀ k H', (k = true ↔ HasRow F n row) → Same H H' → Q (.bl k) H'
theorem place_has {rs : List (Addr × List V)} {row : List V} {k : Nat} (h : SrtS rs) (sr : ∀ x ∈ row, Scal x) (pl : Place rs row k) : (∃ t, rs[k]? = some t ∧ t.2 = row) ↔ ∃ r, (r, row) ∈ rs := by
  constructor
  · rintro ⟨t, e, er⟩
    refine ⟨t.1, ?_⟩
    rw [← er]
    exact List.mem_of_getElem? e
  · rintro ⟨r, m⟩
    obtain ⟨j, e⟩ := List.mem_iff_getElem?.mp m
    rcases Nat.lt_trichotomy j k with c | c | c
    · exact (rlt_irr sr (pl.1 j _ c e)).elim
    · exact ⟨_, by rw [← c]; exact e, rfl⟩
    · have lk : k < rs.length := by have := (List.getElem?_eq_some_iff.mp e).1; omega
      have ek : rs[k]? = some rs[k] := List.getElem?_eq_getElem lk
      exact absurd (srt_lt h.1 ek e c) (pl.2 k _ (Nat.le_refl _) ek)
abbrev sCopy : Stmt := inClass sState 3
abbrev NCopy : List Str := ["self", "made", "name"]
theorem scCopy : FnScope NCopy ["self"] (defScope sCopy) := ⟨rfl, rfl, rfl, by decide +kernel, rfl, by decide +kernel, by decide +kernel⟩
def erF (F : Fb) : List (Str × List (Addr × List V)) := F.map fun x => (x.1, x.2.2)
def spCopy (K : PySem.W.Frag) (C : Addr) : Sp := fun vs H Q _ => ∃ (x dr df ds dl : Addr) (Z : Addr → Prop) (R S : Tb) (F : Fb) (L : List (Str × V)) (b : Nat), vs = [.ref x] ∧ StAt K C Z H x dr df ds dl R F S L b ∧ b ≤ 300 ∧
  ∀ (x' dr' df' ds' dl' : Addr) (F' : Fb) H', Same H H' → H x' = none → erF F' = erF F → StAt K C (fun a => H a = none ∧ a ≠ x') H' x' dr' df' ds' dl' R F' S L 300 → Q (.ref x') H'
theorem n_rf : ¬ (PySem.Str.ofString "relations" = PySem.Str.ofString "facts") := by decide +kernel
theorem n_rs : ¬ (PySem.Str.ofString "relations" = PySem.Str.ofString "structures") := by decide +kernel
theorem n_rl : ¬ (PySem.Str.ofString "relations" = PySem.Str.ofString "layouts") := by decide +kernel
theorem n_fs : ¬ (PySem.Str.ofString "facts" = PySem.Str.ofString "structures") := by decide +kernel
theorem n_fl : ¬ (PySem.Str.ofString "facts" = PySem.Str.ofString "layouts") := by decide +kernel
theorem n_sl : ¬ (PySem.Str.ofString "structures" = PySem.Str.ofString "layouts") := by decide +kernel
theorem flds_eq (a b c d : V) : flds a b c d = ([(PySem.Str.ofString "relations", a), (PySem.Str.ofString "facts", b), (PySem.Str.ofString "structures", c), (PySem.Str.ofString "layouts", d)] : List (Str × V)) := by
  simp only [flds, putF, if_neg n_rf, if_neg n_rs, if_neg n_rl, if_neg n_fs, if_neg n_fl, if_neg n_sl]
theorem flds_putR (v a b c d : V) : putF "relations" v (flds a b c d) = flds v b c d := by
  rw [flds_eq, flds_eq]
  simp only [putF, if_true]
theorem flds_putF (v a b c d : V) : putF "facts" v (flds a b c d) = flds a v c d := by
  rw [flds_eq, flds_eq]
  simp only [putF, if_true, if_neg n_rf]
theorem flds_putS (v a b c d : V) : putF "structures" v (flds a b c d) = flds a b v d := by
  rw [flds_eq, flds_eq]
  simp only [putF, if_true, if_neg n_rs, if_neg n_fs]
theorem flds_putL (v a b c d : V) : putF "layouts" v (flds a b c d) = flds a b c v := by
  rw [flds_eq, flds_eq]
  simp only [putF, if_true, if_neg n_rl, if_neg n_fl, if_neg n_sl]
theorem flds_few (a b c d : V) : (flds a b c d).length < 1000 := by
  have a1 := putF_len "layouts" d (putF "structures" c (putF "facts" b (putF "relations" a [])))
  have a2 := putF_len "structures" c (putF "facts" b (putF "relations" a []))
  have a3 := putF_len "facts" b (putF "relations" a [])
  have a4 := putF_len "relations" a []
  have a5 : ([] : List (Str × V)).length = 0 := rfl
  show (putF "layouts" d (putF "structures" c (putF "facts" b (putF "relations" a [])))).length < 1000
  omega
theorem call_list_K {X : Cx} {K : PySem.W.Frag} (e : X.K = K) : CallR X (.type "list") (fun xs H Q => ∃ p ys, xs = [.ref p] ∧ (SqL K H p ys ∨ SqT K H p ys) ∧ ∀ l, H l = none → Q (.ref l) (upd H l (.lst ys))) := by
  subst e
  exact call_list_of
theorem dc_it {J : L2.It} {n : Nat} {G : Hp → Prop} {Y : Nat → Hp → V → Hp → Prop} (w : Walk J n G Y) {g : TG} {tt : TT} {tk tv : TE} {vs : List Nat} {σ : L2.St} {H1 : Hp} {D : Addr} {Qd : Hp → Prop} (Pv : Nat → Hp → Prop) (h0 : Pv 0 (upd H1 D (.dK []))) (hG : ∀ i H, i ≤ n → Pv i H → G H)
    (hs : ∀ i x H H', i < n → Pv i H → Y i H x H' → g x (wipe σ vs) H' fun σ2 H2 => wipe σ2 vs = wipe σ vs ∧ tt σ2 H2 fun b H3 =>
      if b = true then tk σ2 H3 fun y H4 => tv σ2 H4 fun z H5 => ∃ kvs k, y = kV k ∧ H5 D = some (.dK kvs) ∧ kvs.length < sizeLine ∧ Pv (i + 1) (upd H5 D (.dK (putK kvs k z))) else Pv (i + 1) H3) (hd : ∀ H, Pv n H → Qd H) :
    ∃ W : Nat → Nat → Hp → Prop, (∃ m, W 0 m (upd H1 D (.dK []))) ∧ ∀ i m H, W i m H →
      (J.stop i H ∧ Qd H) ∨ (J.go i H ∧ ∃ Nx : Hp → Prop, (∀ H', Nx H' → ∃ m', m' < m ∧ W (i + 1) m' H') ∧ ∀ x H', J.yld i H x H' → g x (wipe σ vs) H' fun σ2 H2 => wipe σ2 vs = wipe σ vs ∧ tt σ2 H2 fun b H3 =>
        if b = true then tk σ2 H3 fun y H4 => tv σ2 H4 fun z H5 => ∃ kvs k, y = kV k ∧ H5 D = some (.dK kvs) ∧ kvs.length < sizeLine ∧ Nx (upd H5 D (.dK (putK kvs k z))) else Nx H3) := by
  refine ⟨fun i m H => m = n - i ∧ i ≤ n ∧ Pv i H, ⟨n, by simp, Nat.zero_le _, h0⟩, ?_⟩
  rintro i m H ⟨rfl, hi, p⟩
  have q := hG i H hi p
  by_cases hlt : i < n
  · refine .inr ⟨w.goes i H hlt q, Pv (i + 1), fun H' p' => ⟨n - (i + 1), by omega, rfl, hlt, p'⟩, fun x H' y => hs i x H H' hlt p (w.yields i H x H' hlt q y)⟩
  · have e : i = n := by omega
    subst e
    exact .inl ⟨w.stops H q, hd H p⟩
theorem kvF_at {F : Fb} {i : Nat} {k : Key} {v : V} (h : (kvF F)[i]? = some (k, v)) : ∃ e, F[i]? = some e ∧ k = Sum.inr e.1 ∧ v = .ref e.2.1 := by
  unfold kvF kvG at h
  rw [List.getElem?_map] at h
  cases e : F[i]? with
  | none => rw [e] at h; cases h
  | some t =>
    rw [e] at h
    have z := Option.some.inj h
    exact ⟨t, rfl, (congrArg Prod.fst z).symm, (congrArg Prod.snd z).symm⟩
section
variable {P : Program} {w : World} {K : PySem.W.Frag} {mg : Str → Option Value} {base : Heap} {C : Addr}
theorem ok_has {f : Addr} {fd : FuncData} (F0 : Fun K "has" "State.has" sHas f fd) (X : Txt K mg C)
    (Dplace_of : Kn P w K mg base 3 "place_of" ["rows", "row"] (spPlace K)) :
    FnOk P w K mg base CX0 4 f fd ["self", "relation", "row"] (spHas K C) := by
  refine F0.ok scHas (fun vs H Q E h => ?_) (fun cdv A outer s H vs Q E hr h => ?_)
  · obtain ⟨x, r, n, row, dr, df, ds, dl, Z, R, S, F, L, b, rfl, _⟩ := h
    rfl
  · obtain ⟨x, r, n, row, dr, df, ds, dl, Z, R, S, F, L, b, rfl, st, lb, hrow, srow, lrow, srt, q⟩ := h
    have hu := hu_of hr
    refine ⟨_, (pss_mid (ps_set (i := 3) scHas.nd rfl (.inl rfl) (pe_dget2 hu (pe_fld (pv 0) rfl) (pv 1) (pe_lst pa_nil) ⟨rfl, rfl, rfl, rfl⟩))
      (pss_cons (ps_set (i := 4) scHas.nd rfl (.inl rfl) (pe_kn Dplace_of hr (pa_cons (pv 3) (pa_cons (pv 2) pa_nil))))
      (pss_one (ps_ret (pe_cmpR (op_eqD (hu64 hr)) (pe_slice sl_list (pv 3) (po_some (pv 4)) (po_some (pe_op op_add (pv 4) pe_int))) (pe_lst (pa_cons (pv 2) pa_nil)) (nomark _)))))), ?_⟩
    refine ⟨fun σ H1 => ∃ (l : Addr) (rs : List (Addr × List V)), σ = [some (.ref x), some (.str n), some (.ref r), some (.ref l), none] ∧ Same H H1 ∧ H1 l = some (.lst (rrefs rs)) ∧ RowsOk K H1 rs ∧ SrtS rs ∧ rs.length ≤ 900 ∧ (HasRow F n row ↔ ∃ r, (r, row) ∈ rs), ?_, ?_⟩
    · obtain ⟨dx, ob⟩ := st.ob
      refine ⟨_, rfl, x, C, dx, _, _, rfl, ob, X.cl, X.nF, flds_f _ _ _ _, df, rfl, .inl ⟨_, .inl st.f⟩, _, rfl, sz 0, fun o no => ?_⟩
      have s1 := Same.new (o := .lst []) no
      have st1 := st.same s1
      cases e : valG F n with
      | none =>
        refine ⟨none, .inl ⟨kvF F, Sum.inr n, .inl st1.f, rfl, by rw [kvF_val, e]; rfl⟩, o, [], rfl, s1, upd_same, (fun _ m => nomatch m), ⟨.nil, fun _ m => nomatch m⟩, Nat.zero_le _, ?_⟩
        refine ⟨fun ⟨q', rs', e', _⟩ => ?_, fun ⟨r, m⟩ => nomatch m⟩
        rw [e] at e'
        cases e'
      | some a =>
        obtain ⟨qa, rs⟩ := a
        have m := valG_mem e
        obtain ⟨hq, ro, lr⟩ := st1.ft _ m
        have lr' : rs.length ≤ b := lr
        refine ⟨some (.ref qa), dgetF (.inl st1.f) e, qa, rs, rfl, s1, hq, ro, srt _ _ _ e, by omega, ?_⟩
        refine ⟨fun ⟨q', rs', e', h⟩ => ?_, fun h => ⟨qa, rs, e, h⟩⟩
        rw [e] at e'
        cases e'
        exact h
    · rintro σ H1 ⟨l, rs, rfl, s1, hl, ro, so, lr, hh⟩
      have hrow1 := Tk.same s1 _ _ hrow
      refine ⟨_, rfl, _, rfl, l, r, rs, row, rfl, SqL.of hl, ro, hrow1, srow, lrow, by omega, fun k H2 lk pl s2 => ?_⟩
      have hl2 := s2 _ _ hl
      obtain ⟨ts, ec, mts, ets⟩ := cut_rows rs (some (k : Int)) (some ((k : Int) + 1))
      have i1 : HT.sIx rs.length 0 (some (k : Int)) = k := by rw [HT.sIx_nat]; omega
      have i2 : HT.sIx rs.length rs.length (some ((k : Int) + 1)) = min (k + 1) rs.length := by
        have := HT.sIx_nat rs.length rs.length (k + 1)
        rw [← this]
        rfl
      have one : ts = (rs[k]?).toList := by
        rw [ets, i1, i2]
        by_cases hk : k < rs.length
        · rw [List.getElem?_eq_getElem hk, List.drop_eq_getElem_cons hk]
          have : min (k + 1) rs.length - k = 1 := by omega
          rw [this]
          rfl
        · rw [List.getElem?_eq_none (by omega), List.drop_of_length_le (by omega), List.take_nil]
          rfl
      refine ⟨_, rfl, _, rfl, (k : Int), rfl, _, rfl, (k : Int), 1, rfl, rfl, (k : Int) + 1, rfl, l, rrefs rs, rfl, SqL.of hl2, fun p np => ?_⟩
      rw [ec]
      have s3 := Same.new (o := .lst (rrefs ts)) np
      have e3 := upd_same (H := H2) (a := p) (o := .lst (rrefs ts))
      generalize (upd H2 p (.lst (rrefs ts))) = H3 at *
      refine ⟨_, rfl, sz 1, fun u nu => ?_⟩
      have s4 := Same.new (o := .lst [V.ref r]) nu
      have e4 := upd_same (H := H3) (a := u) (o := .lst [V.ref r])
      generalize (upd H3 u (.lst [V.ref r])) = H4 at *
      have s24 := s3.trans s4
      have ro4 := (ro.same s2).same s24
      have hrow4 := Tk.same (s2.trans s24) _ _ hrow1
      have rts : RowsOk K H4 ts := fun t m => ro4 t (mts t m)
      refine ⟨rwsD ts, .list [rowD row], .lst (SqL.of (s4 _ _ e3)) (rws_dp rts), .lst (SqL.of e4) (.cons (.tup hrow4 (sc_dp srow)) .nil), rws_shaped fun t m => (rts t m).2.1, ?_, ?_⟩
      · exact rws_shaped (rs := [(r, row)]) fun t m => by
          rw [List.mem_singleton.mp m]
          exact srow
      refine q _ _ ?_ ((s1.trans s2).trans s24)
      rw [hh, ← place_has so srow (pl so.1)]
      unfold rwsD
      rw [one, eqv_lst]
      cases e : rs[k]? with
      | none =>
        show PyData.eqvAll [] _ = true ↔ _
        rw [eqv_nc]
        exact ⟨(fun z => nomatch z), fun ⟨t, h, _⟩ => nomatch h⟩
      | some t =>
        have mt := List.mem_of_getElem? e
        show PyData.eqvAll [rowD t.2] [rowD row] = true ↔ _
        rw [eqv_cons, eqv_nil, Bool.and_true, eqv_row (ro t mt).2.1 srow, decide_eq_true_iff]
        exact ⟨fun h => ⟨t, rfl, h⟩, fun ⟨u, hu, h⟩ => by rw [Option.some.inj hu]; exact h⟩
theorem ok_copy {f : Addr} {fd : FuncData} (F0 : Fun K "copy" "State.copy" sCopy f fd) (T : Bl mg) (X : Txt K mg C) (St : Sta P w K mg base C) :
    FnOk P w K mg base CX0 8 f fd ["self"] (spCopy K C) := by
  obtain ⟨fI, fdI, a0, dsI, M, GI, GI0, bI, bI0, vI0, hA0⟩ := St.ex
  refine F0.ok scCopy (fun vs H Q E h => ?_) (fun cdv A outer s H vs Q E hr h => ?_)
  · obtain ⟨x, dr, df, ds, dl, Z, R, S, F, L, b, rfl, _⟩ := h
    rfl
  · obtain ⟨x, dr, df, ds, dl, Z, R, S, F, L, b, rfl, st, lb, q⟩ := h
    have hu := hu_of hr
    refine ⟨_, (pss_cons (ps_set (i := 1) scCopy.nd rfl (.inl rfl) (pe_make0 M GI0 hr (by rfl) X.mgC bI0 vI0 pass0))
      (pss_cons (ps_fld (pv 1) (pe_callTy call_dictD (by rfl) T.dict (by decide +kernel) (pa_cons (pe_fld (pv 0) rfl) pa_nil)) rfl)
      (pss_cons (ps_fld (pv 1) (pe_lock (pe_dc (own := [("name", 2)]) (g := gName 2) rfl scCopy.nd (pi_keys (pe_fld (pv 0) rfl)) (blkOk_by (own := [("name", 2)]) (N := NCopy) (sc := defScope sCopy) (by decide +kernel)) (fun _ _ _ _ _ => pg_name (i := 2) scCopy.nd rfl (Or.inl rfl)) (fun _ _ _ _ _ => pts_nil) (fun _ _ _ _ _ => pv 2)
        (fun _ _ _ _ _ => pe_callTy (call_list_K (K := K) rfl) (by rfl) T.list (by decide +kernel) (pa_cons (pe_dget hu (pe_fld_K (K := K) rfl (pv 0) rfl) (pv 2) (fun _ _ => rfl)) pa_nil)))) rfl)
      (pss_cons (ps_fld (pv 1) (pe_callTy call_dictD (by rfl) T.dict (by decide +kernel) (pa_cons (pe_fld (pv 0) rfl) pa_nil)) rfl)
      (pss_cons (ps_fld (pv 1) (pe_callTy call_dictD (by rfl) T.dict (by decide +kernel) (pa_cons (pe_fld (pv 0) rfl) pa_nil)) rfl)
      (pss_one (ps_ret (pv 1)))))))), ?_⟩
    refine fun x2 dx2 nx2 ndx2 nex2 => ⟨x2, a0, dx2, rfl, upd_same, hA0 _, fun br bf bs bl H1 st1 gw1 => ⟨rfl, ?_⟩⟩
    have s1 : Same H H1 := same_made nx2 ndx2 gw1
    obtain ⟨dxn, obn⟩ := st1.ob
    clear st1 gw1
    obtain ⟨dx, ob⟩ := st.ob
    have xx : x ≠ x2 := fun z => by rw [z, nx2] at ob; cases ob
    have ne2 : ∀ {a : Addr} {o : HO}, H a = some o → a ≠ x2 := fun {a o} h z => by rw [z, nx2] at h; cases h
    -- relations
    refine ⟨_, rfl, x, C, dx, _, _, rfl, s1 _ _ ob, X.cl, X.nR, flds_r _ _ _ _, dr, kvR R, rfl, .inl (s1 _ _ st.r), fun d1 n1 => ?_⟩
    have h1x : x2 ≠ d1 := ne_of_none obn n1
    refine ⟨_, rfl, x2, C, dxn, _, rfl, (by rw [upd_ne h1x]; exact obn), X.cl, X.nR, flds_few _ _ _ _, ?_⟩
    rw [flds_putR]
    have s2 : Same H (upd (upd H1 d1 (.dK (kvR R))) x2 (.ins C dxn (flds (.ref d1) (.ref bf) (.ref bs) (.ref bl)))) := Same.over (s1.trans (Same.new n1)) nx2
    have obn2 := upd_same (H := upd H1 d1 (.dK (kvR R))) (a := x2) (o := .ins C dxn (flds (.ref d1) (.ref bf) (.ref bs) (.ref bl)))
    have e1 : (upd (upd H1 d1 (.dK (kvR R))) x2 (.ins C dxn (flds (.ref d1) (.ref bf) (.ref bs) (.ref bl)))) d1 = some (.dK (kvR R)) := by rw [upd_ne h1x.symm]; exact upd_same
    have n1H := s1.free n1
    generalize (upd (upd H1 d1 (.dK (kvR R))) x2 (.ins C dxn (flds (.ref d1) (.ref bf) (.ref bs) (.ref bl)))) = H2 at *
    -- facts
    have fr := s2 _ _ st.f
    refine ⟨df, .dK (kvF F), fr, True.intro, fun od => ?_⟩
    have xdf : x ≠ df := fun z => by rw [z, st.f] at ob; cases ob
    have tl : Tk K H2 (upd H2 df (.frz od (.dK (kvF F)))) := Tk.dK fr
    have obl : (upd H2 df (.frz od (.dK (kvF F)))) x = some (.ins C dx (flds (.ref dr) (.ref df) (.ref ds) (.ref dl))) := by rw [upd_ne xdf]; exact s2 _ _ ob
    have frl : (upd H2 df (.frz od (.dK (kvF F)))) df = some (.frz od (.dK (kvF F))) := upd_same
    have lkk : (kvF F).length = F.length := kvG_len _ _
    have hfl : ∀ e ∈ F, (upd H2 df (.frz od (.dK (kvF F)))) e.2.1 = some (.lst (rrefs e.2.2)) := fun e m => by
      rw [upd_ne (fun z => by have := (st.ft e m).1; rw [z, st.f] at this; cases this)]
      exact s2 _ _ (st.ft e m).1
    refine ⟨_, rfl, x, C, dx, _, _, rfl, obl, X.cl, X.nF, flds_f _ _ _ _, df, od, rfl, .inl ⟨kvF F, frl, fun D nD => dc_it walk_keys (fun i H4 => ∃ F' : Fb, Same (upd H2 df (.frz od (.dK (kvF F)))) H4 ∧ H4 D = some (.dK (kvF F')) ∧ erF F' = (erF F).take i ∧
        (∀ e ∈ F', H4 e.2.1 = some (.lst (rrefs e.2.2)) ∧ H2 e.2.1 = none ∧ e.2.1 ≠ D) ∧ F'.Pairwise fun a b => a.2.1 ≠ b.2.1)
      ⟨[], Same.new nD, upd_same, rfl, (fun _ m => nomatch m), .nil⟩ (fun i H4 _ hP => ?_) (fun i y H4 H5 hi hP hY => ?_) (fun H4 hP => ?_)⟩⟩
    · obtain ⟨_, s4, _⟩ := hP
      exact s4 _ _ frl
    · obtain ⟨F', s4, eD, ef, hF, pw⟩ := hP
      obtain ⟨rfl, k, v, ek, rfl⟩ := hY
      obtain ⟨e, ee, rfl, rfl⟩ := kvF_at ek
      have me := List.mem_of_getElem? ee
      have il : i < F.length := (List.getElem?_eq_some_iff.mp ee).1
      have ec : valG F e.1 = some (e.2.1, e.2.2) := valG_of st.fn me
      refine ⟨rfl, ?_⟩
      refine ⟨_, rfl, _, rfl, x, C, dx, _, _, rfl, s4 _ _ obl, X.cl, X.nF, flds_f _ _ _ _, _, rfl, df, _, rfl, dgetF (.inr ⟨od, s4 _ _ frl⟩) ec, e.2.1, _, rfl, .inl (SqL.of (s4 _ _ (hfl e me))), fun l nl => ?_⟩
      have s5 := Same.new (o := .lst (rrefs e.2.2)) nl
      have lD : l ≠ D := fun z => by rw [z, eD] at nl; cases nl
      have ll : F'.length = i := by
        have := congrArg List.length ef
        rw [List.length_take] at this
        unfold erF at this
        rw [List.length_map, List.length_map] at this
        omega
      have kn : valG F' e.1 = none := by
        cases z : valG F' e.1 with
        | none => rfl
        | some bb =>
          have m1 : (e.1, bb.2) ∈ erF F' := List.mem_map.mpr ⟨_, valG_mem z, rfl⟩
          rw [ef] at m1
          obtain ⟨j, hj⟩ := List.mem_iff_getElem?.mp m1
          have jl : j < i := by
            have := (List.getElem?_eq_some_iff.mp hj).1
            rw [List.length_take] at this
            omega
          rw [List.getElem?_take_of_lt jl] at hj
          unfold erF at hj
          rw [List.getElem?_map] at hj
          cases w' : F[j]? with
          | none => rw [w'] at hj; cases hj
          | some u =>
            rw [w'] at hj
            have hj2 : (u.1, u.2.2) = (e.1, bb.2) := Option.some.inj hj
            have h1 : u.1 = e.1 := congrArg (fun x : Str × List (Addr × List V) => x.1) hj2
            obtain ⟨pj, ej⟩ := List.getElem?_eq_some_iff.mp w'
            obtain ⟨pi, ei⟩ := List.getElem?_eq_some_iff.mp ee
            have nd := List.pairwise_iff_getElem.mp st.fn j i (by rw [List.length_map]; exact pj) (by rw [List.length_map]; exact pi) jl
            rw [List.getElem_map, List.getElem_map, ej, ei] at nd
            exact absurd h1 nd
      refine ⟨kvF F', Sum.inr e.1, rfl, s5 _ _ eD, ?_, F' ++ [(e.1, l, e.2.2)], Same.over (s4.trans s5) nD, ?_, ?_, fun u m => ?_, ?_⟩
      · unfold kvF
        rw [kvG_len]
        exact small (m := 1000) (by have := st.ln; omega) (by decide)
      · rw [upd_same]
        have := kvG_put (fun b : Addr × List (Addr × List V) => V.ref b.1) F' e.1 (l, e.2.2)
        rw [putG_new _ kn] at this
        exact congrArg (fun t => some (HO.dK t)) this
      · have ee2 : (erF F)[i]? = some (e.1, e.2.2) := by unfold erF; rw [List.getElem?_map, ee]; rfl
        rw [take_snoc' ee2, ← ef]
        unfold erF
        rw [List.map_append]
        rfl
      · rcases List.mem_append.mp m with m | m
        · obtain ⟨h1, h2, h3⟩ := hF u m
          exact ⟨by rw [upd_ne h3]; exact s5 _ _ h1, h2, h3⟩
        · rw [List.mem_singleton.mp m]
          refine ⟨by rw [upd_ne lD]; exact upd_same, ?_, lD⟩
          have z := s4.free nl
          by_cases w' : l = df
          · rw [w', frl] at z; cases z
          · rw [upd_ne w'] at z; exact z
      · rw [List.pairwise_append]
        refine ⟨pw, List.pairwise_singleton _ _, fun a ma b' mb => ?_⟩
        rw [List.mem_singleton.mp mb]
        exact ne_of_none (hF a ma).1 nl
    obtain ⟨F', s4, eD, ef, hF, pw⟩ := hP
    rw [lkk, List.take_of_length_le (by unfold erF; rw [List.length_map]; exact Nat.le_refl _)] at ef
    refine ⟨s4 _ _ frl, ?_⟩
    have s5 : Same H2 (upd H4 df (.dK (kvF F))) := Same.lock fr s4
    have Ddf : D ≠ df := fun z => by rw [z, frl] at nD; cases nD
    have nD2 : H2 D = none := by rw [upd_ne Ddf] at nD; exact nD
    have eD5 : (upd H4 df (.dK (kvF F))) D = some (.dK (kvF F')) := by rw [upd_ne Ddf]; exact eD
    have hF5 : ∀ e ∈ F', (upd H4 df (.dK (kvF F))) e.2.1 = some (.lst (rrefs e.2.2)) ∧ H2 e.2.1 = none := fun e m => by
      obtain ⟨h1, h2, h3⟩ := hF e m
      exact ⟨by rw [upd_ne (fun z => by rw [z, fr] at h2; cases h2)]; exact h1, h2⟩
    clear hF s4 eD frl obl hfl tl
    generalize (upd H4 df (.dK (kvF F))) = H5 at *
    have s25 := s2.trans s5
    have nDH := s2.free nD2
    refine ⟨_, rfl, x2, C, dxn, _, rfl, s5 _ _ obn2, X.cl, X.nF, flds_few _ _ _ _, ?_⟩
    rw [flds_putF]
    have s6 : Same H (upd H5 x2 (.ins C dxn (flds (.ref d1) (.ref D) (.ref bs) (.ref bl)))) := Same.over s25 nx2
    have obn6 := upd_same (H := H5) (a := x2) (o := .ins C dxn (flds (.ref d1) (.ref D) (.ref bs) (.ref bl)))
    have x1d : d1 ≠ x2 := fun z => by rw [z, obn2] at e1; cases e1
    have xD : D ≠ x2 := fun z => by rw [z, s5 _ _ obn2] at eD5; cases eD5
    have D1 : d1 ≠ D := ne_of_none e1 nD2
    have e16 : (upd H5 x2 (.ins C dxn (flds (.ref d1) (.ref D) (.ref bs) (.ref bl)))) d1 = some (.dK (kvR R)) := by rw [upd_ne x1d]; exact s5 _ _ e1
    have eD6 : (upd H5 x2 (.ins C dxn (flds (.ref d1) (.ref D) (.ref bs) (.ref bl)))) D = some (.dK (kvF F')) := by rw [upd_ne xD]; exact eD5
    have hF6 : ∀ e ∈ F', (upd H5 x2 (.ins C dxn (flds (.ref d1) (.ref D) (.ref bs) (.ref bl)))) e.2.1 = some (.lst (rrefs e.2.2)) ∧ H e.2.1 = none ∧ e.2.1 ≠ x2 := fun e m => by
      obtain ⟨h1, h2⟩ := hF5 e m
      have h3 : e.2.1 ≠ x2 := fun z => by rw [z, obn2] at h2; cases h2
      exact ⟨by rw [upd_ne h3]; exact h1, s2.free h2, h3⟩
    clear hF5 s25 s5 eD5 e1 obn2 s2 fr s1 obn
    generalize (upd H5 x2 (.ins C dxn (flds (.ref d1) (.ref D) (.ref bs) (.ref bl)))) = H6 at *
    -- structures
    refine ⟨_, rfl, x, C, dx, _, _, rfl, s6 _ _ ob, X.cl, X.nS, flds_s _ _ _ _, ds, kvR S, rfl, .inl (s6 _ _ st.s), fun d3 n3 => ?_⟩
    have x3 : x2 ≠ d3 := ne_of_none obn6 n3
    refine ⟨_, rfl, x2, C, dxn, _, rfl, (by rw [upd_ne x3]; exact obn6), X.cl, X.nS, flds_few _ _ _ _, ?_⟩
    rw [flds_putS]
    have k7 : ∀ a o, H6 a = some o → a ≠ x2 → (upd (upd H6 d3 (.dK (kvR S))) x2 (.ins C dxn (flds (.ref d1) (.ref D) (.ref d3) (.ref bl)))) a = some o := fun a o h n => by
      rw [upd_ne n, upd_ne (ne_of_none h n3)]
      exact h
    have s7 : Same H (upd (upd H6 d3 (.dK (kvR S))) x2 (.ins C dxn (flds (.ref d1) (.ref D) (.ref d3) (.ref bl)))) := fun a o h => k7 a o (s6 _ _ h) (ne2 h)
    have obn7 := upd_same (H := upd H6 d3 (.dK (kvR S))) (a := x2) (o := .ins C dxn (flds (.ref d1) (.ref D) (.ref d3) (.ref bl)))
    have e3 : (upd (upd H6 d3 (.dK (kvR S))) x2 (.ins C dxn (flds (.ref d1) (.ref D) (.ref d3) (.ref bl)))) d3 = some (.dK (kvR S)) := by rw [upd_ne x3.symm]; exact upd_same
    have D13 : d1 ≠ d3 := ne_of_none e16 n3
    have DD3 : D ≠ d3 := ne_of_none eD6 n3
    have n3H := s6.free n3
    have e17 := k7 _ _ e16 x1d
    have eD7 := k7 _ _ eD6 xD
    have hF7 : ∀ e ∈ F', _ ∧ H e.2.1 = none ∧ e.2.1 ≠ x2 := fun e m => ⟨k7 _ _ (hF6 e m).1 (hF6 e m).2.2, (hF6 e m).2⟩
    clear hF6 e16 eD6 s6 obn6 n3 k7
    generalize (upd (upd H6 d3 (.dK (kvR S))) x2 (.ins C dxn (flds (.ref d1) (.ref D) (.ref d3) (.ref bl)))) = H7 at *
    -- layouts
    refine ⟨_, rfl, x, C, dx, _, _, rfl, s7 _ _ ob, X.cl, X.nL, flds_l _ _ _ _, dl, kvG id L, rfl, .inl (s7 _ _ st.l), fun d4 n4 => ?_⟩
    have x4 : x2 ≠ d4 := ne_of_none obn7 n4
    refine ⟨_, rfl, x2, C, dxn, _, rfl, (by rw [upd_ne x4]; exact obn7), X.cl, X.nL, flds_few _ _ _ _, ?_⟩
    rw [flds_putL]
    have k8 : ∀ a o, H7 a = some o → a ≠ x2 → (upd (upd H7 d4 (.dK (kvG id L))) x2 (.ins C dxn (flds (.ref d1) (.ref D) (.ref d3) (.ref d4)))) a = some o := fun a o h n => by
      rw [upd_ne n, upd_ne (ne_of_none h n4)]
      exact h
    have s8 : Same H (upd (upd H7 d4 (.dK (kvG id L))) x2 (.ins C dxn (flds (.ref d1) (.ref D) (.ref d3) (.ref d4)))) := fun a o h => k8 a o (s7 _ _ h) (ne2 h)
    have e4 : (upd (upd H7 d4 (.dK (kvG id L))) x2 (.ins C dxn (flds (.ref d1) (.ref D) (.ref d3) (.ref d4)))) d4 = some (.dK (kvG id L)) := by rw [upd_ne x4.symm]; exact upd_same
    have e18 := k8 _ _ e17 x1d
    have eD8 := k8 _ _ eD7 xD
    have e38 := k8 _ _ e3 x3.symm
    have D14 : d1 ≠ d4 := ne_of_none e17 n4
    have DD4 : D ≠ d4 := ne_of_none eD7 n4
    have D34 : d3 ≠ d4 := ne_of_none e3 n4
    have n4H := s7.free n4
    have lenF : F'.length = F.length := by
      have := congrArg List.length ef
      unfold erF at this
      rw [List.length_map, List.length_map] at this
      exact this
    refine ⟨_, rfl, q x2 d1 D d3 d4 F' _ s8 nx2 ef ?_⟩
    refine ⟨⟨dxn, upd_same⟩, e18, fun e m => Tk.same s8 _ _ (st.rt e m), eD8, fun e m => ?_, fun e m => ⟨(hF7 e m).2.1, (hF7 e m).2.2⟩, pw, ?_, e38, fun e m => Tk.same s8 _ _ (st.st e m), e4, ⟨⟨n1H, x1d⟩, ⟨nDH, xD⟩, ⟨n3H, x3.symm⟩, ⟨n4H, x4.symm⟩, fun z => z.2 rfl⟩,
      ⟨D1, D13, D14, DD3, DD4, D34⟩, fun a h => ⟨s8.free h, fun z => by rw [z, upd_same] at h; cases h⟩, by have := st.ln; omega⟩
    · have m1 : (e.1, e.2.2) ∈ erF F' := List.mem_map.mpr ⟨e, m, rfl⟩
      rw [ef] at m1
      obtain ⟨u, mu, eu⟩ := List.mem_map.mp m1
      have e2 : u.2.2 = e.2.2 := congrArg (fun x : Str × List (Addr × List V) => x.2) eu
      have h2 := st.ft u mu
      rw [e2] at h2
      exact ⟨k8 _ _ (hF7 e m).1 (hF7 e m).2.2, h2.2.1.same s8, by have := h2.2.2; omega⟩
    · have z := congrArg (List.map Prod.fst) ef
      unfold erF at z
      rw [List.map_map, List.map_map] at z
      have z2 : F'.map (·.1) = F.map (·.1) := z
      rw [z2]
      exact st.fn
end
end K1
namespace K1
open PySem PySem.Spec PyProof.Rows L2 Ow Tlz
abbrev s_law_is_dict : Stmt := topS 21
abbrev N_law_is_dict : List Str := ["actual", "expected", "key"]
theorem sc_law_is_dict : FnScope N_law_is_dict ["actual", "expected"] (defScope s_law_is_dict) := ⟨rfl, rfl, rfl, by decide +kernel, rfl, by decide +kernel, by decide +kernel⟩
def spIsD (K : PySem.W.Frag) : Sp := fun vs H Q _ => ∃ (a b : Addr) (kvs kvs' : List (Key × V)), vs = [.ref a, .ref b] ∧ H a = some (.dK kvs) ∧ H b = some (.dK kvs') ∧ a ≠ b ∧ kvs.length = kvs'.length ∧
  (∀ k v, valV kvs' k = some v → ∃ v' d, valV kvs k = some v' ∧ Dp K H v' d ∧ Dp K H v d ∧ Gd 2 d) ∧ Mak H Q fun z _ => z = .bl true
mutual
theorem Dp.mv {K : PySem.W.Frag} {H H' : Hp} (l : ∀ a xs, SqL K H a xs → SqL K H' a xs) (t : Tk K H H') : ∀ (d : PyData) (v : V), Dp K H v d → Dp K H' v d
  | .none, _, .non => .non
  | .bool b, _, .bl _ => .bl b
  | .int i, _, .int _ => .int i
  | .str x, _, .str _ => .str x
  | .list xs, _, .lst s a => .lst (l _ _ s) (DpAll.mv l t xs _ a)
  | .tuple xs, _, .tup s a => .tup (t _ _ s) (DpAll.mv l t xs _ a)
theorem DpAll.mv {K : PySem.W.Frag} {H H' : Hp} (l : ∀ a xs, SqL K H a xs → SqL K H' a xs) (t : Tk K H H') : ∀ (ds : List PyData) (vs : List V), DpAll K H vs ds → DpAll K H' vs ds
  | [], _, .nil => .nil
  | d :: ds, _, .cons a b => .cons (Dp.mv l t d _ a) (DpAll.mv l t ds _ b)
end
theorem SqL.dK {K : PySem.W.Frag} {H : Hp} {p : Addr} {kvs : List (Key × V)} {o : HO} (e : H p = some (.dK kvs)) : ∀ a xs, SqL K H a xs → SqL K (upd H p o) a xs := fun a xs h => by
  rcases h with (h | ⟨u, h⟩) | h
  · exact .inl (.inl (by rw [upd_ne (fun z => by rw [z, e] at h; cases h)]; exact h))
  · exact .inl (.inr ⟨u, by rw [upd_ne (fun z => by rw [z, e] at h; cases h)]; exact h⟩)
  · exact .inr h
theorem valV_memK {kvs : List (Key × V)} {k : Key} {v : V} (h : (k, v) ∈ kvs) : ∃ v', valV kvs k = some v' := by
  unfold valV
  cases e : kvs.find? fun kv => decide (kv.1 = k) with
  | none =>
    have := List.find?_eq_none.mp e _ h
    exact absurd (decide_eq_true rfl) this
  | some x => exact ⟨x.2, rfl⟩
section
variable {P : Program} {w : World} {K : PySem.W.Frag} {mg : Str → Option Value} {base : Heap} {C : Addr}
theorem ok_isd {f : Addr} {fd : FuncData} (F0 : Fun K "_law_is_dict" "_law_is_dict" s_law_is_dict f fd) (T : Bl mg)
    (D_law_same : Kn P w K mg base 4 "_law_same" ["actual", "expected"] (spSm K 3)) :
    FnOk P w K mg base CX0 5 f fd ["actual", "expected"] (spIsD K) := by
  refine F0.ok sc_law_is_dict (fun vs H Q E h => ?_) (fun cdv A outer s H vs Q E hr h => ?_)
  · obtain ⟨a, b, kvs, kvs', rfl, _⟩ := h
    rfl
  · obtain ⟨a, b, kvs, kvs', rfl, ha, hb, ab, ln, hn, q⟩ := h
    have hu := hu_of hr
    refine ⟨_, (pss_cons (ps_if (PW.pt (pw_or (pt_not (pt_val (pe_callB call_isi (by rfl) T.isinstance (by decide +kernel) (pa_cons (pv 0) (pa_cons (pe_ty "dict" (by rfl) T.dict (by decide +kernel)) pa_nil))))) (pw_or1 (pt_cmpR op_ne (pe_callB call_lenD (by rfl) T.len PySem.boot_len (pa_cons (pv 0) pa_nil)) (pe_callB call_lenD (by rfl) T.len PySem.boot_len (pa_cons (pv 1) pa_nil)) (nomark _))))) (pss_one (ps_ret pe_bl)) pss_nil)
      (pss_cons (ps_lock (ps_for PassesOwn.never rfl (pi_keys (pv 1)) (pg_name (i := 2) sc_law_is_dict.nd rfl (.inl rfl)) (pss_one (ps_if (PW.pt (pw_or (pt_cmp (pc_dnotin hu (pv 2) (pv 0))) (pw_or1 (pt_not (pt_val (pe_kn D_law_same hr (pa_cons (pe_dget hu (pv 0) (pv 2) (fun _ _ => rfl)) (pa_cons (pe_dget hu (pv 1) (pv 2) (fun _ _ => rfl)) pa_nil)))))))) (pss_one (ps_ret pe_bl)) pss_nil))))
      (pss_one (ps_ret pe_bl)))), ?_⟩
    refine ⟨_, rfl, _, _, .type "dict", .type "dict", true, rfl, .ty _, .base (.dK ha), kit_ty (by decide +kernel), ?_⟩
    refine ⟨_, rfl, ?_⟩
    refine iteF ?_
    refine ⟨_, rfl, a, kvs, rfl, ha, _, rfl, b, kvs', rfl, hb, rfl, _, rfl, ?_⟩
    rw [ln]
    refine iteNS rfl ?_
    refine ⟨b, .dK kvs', hb, True.intro, fun od => ?_⟩
    have frb : (upd H b (.frz od (.dK kvs'))) b = some (.frz od (.dK kvs')) := upd_same
    have hal : (upd H b (.frz od (.dK kvs'))) a = some (.dK kvs) := by rw [upd_ne ab]; exact ha
    have ml := SqL.dK (K := K) (o := .frz od (.dK kvs')) hb
    have mt : Tk K H (upd H b (.frz od (.dK kvs'))) := Tk.dK hb
    refine ⟨_, rfl, b, od, rfl, .inl ⟨kvs', frb, for_it walk_keys (fun i σ H4 => ∃ y2 : Option V, σ = [some (.ref a), some (.ref b), y2] ∧ Same (upd H b (.frz od (.dK kvs'))) H4)
      ⟨none, rfl, Same.refl _⟩ (fun i σ H4 _ hP => ?_) (fun i y σ H4 H5 hi hP hY => ?_) (fun σ H4 hP => ?_)⟩⟩
    · obtain ⟨_, _, s4⟩ := hP
      exact s4 _ _ frb
    · obtain ⟨y2, rfl, s4⟩ := hP
      obtain ⟨rfl, k, v0, ek, rfl⟩ := hY
      obtain ⟨v, ev⟩ := valV_memK (List.mem_of_getElem? ek)
      obtain ⟨v', d, ev', dp', dp, gd⟩ := hn k v ev
      have d1 : DGet H5 a (kV k) (some v') := ev' ▸ DGet.k (k := k) (s4 _ _ hal)
      have d2 : DGet H5 b (kV k) (some v) := .inl ⟨kvs', k, .inr ⟨od, s4 _ _ frb⟩, rfl, ev.symm⟩
      refine ⟨_, rfl, _, rfl, a, _, rfl, d1, _, rfl, ?_⟩
      refine iteF ?_
      refine ⟨_, rfl, _, rfl, a, _, rfl, d1, _, rfl, _, rfl, b, _, rfl, d2, _, _, d, rfl, Dp.sm s4 _ _ (Dp.mv ml mt _ _ dp'), Dp.sm s4 _ _ (Dp.mv ml mt _ _ dp), gd.i, gd.d, ?_⟩
      rintro z6 H6 rfl s6
      exact ⟨_, rfl, iteF ⟨_, rfl, s4.trans s6⟩⟩
    · obtain ⟨y2, rfl, s4⟩ := hP
      refine ⟨s4 _ _ frb, ?_⟩
      exact q _ _ rfl (Same.lock hb s4)
end
/-! the tables that the law makes -/
structure DueAt (K : PySem.W.Frag) (H : Hp) (e0 e1 e2 e3 : Addr) (R : Tb) (F : Fb) (S : Tb) (L : List (Str × V)) (b : Nat) : Prop where
  r : H e0 = some (.dK (kvR R))
  rt : ∀ n q c, valG R n = some (q, c) → SqT K H q c
  f : H e1 = some (.dK (kvF F))
  ft : ∀ n q rs, valG F n = some (q, rs) → H q = some (.lst (rrefs rs)) ∧ RowsOk K H rs ∧ rs.length ≤ b
  s : H e2 = some (.dK (kvR S))
  st : ∀ n q c, valG S n = some (q, c) → SqT K H q c
  l : H e3 = some (.dK (kvG id L))
  ne : e0 ≠ e1 ∧ e0 ≠ e2 ∧ e0 ≠ e3 ∧ e1 ≠ e2 ∧ e1 ≠ e3 ∧ e2 ≠ e3
section
variable {K : PySem.W.Frag} {H H' : Hp} {e0 e1 e2 e3 : Addr} {R S : Tb} {F : Fb} {L : List (Str × V)} {b : Nat}
theorem DueAt.same (h : DueAt K H e0 e1 e2 e3 R F S L b) (s : Same H H') : DueAt K H' e0 e1 e2 e3 R F S L b :=
  ⟨s _ _ h.r, fun n q c e => Tk.same s _ _ (h.rt n q c e), s _ _ h.f, fun n q rs e => ⟨s _ _ (h.ft n q rs e).1, (h.ft n q rs e).2.1.same s, (h.ft n q rs e).2.2⟩, s _ _ h.s, fun n q c e => Tk.same s _ _ (h.st n q c e), s _ _ h.l, h.ne⟩
theorem DueAt.up {c : Nat} (h : DueAt K H e0 e1 e2 e3 R F S L b) (l : b ≤ c) : DueAt K H e0 e1 e2 e3 R F S L c :=
  ⟨h.r, h.rt, h.f, fun n q rs e => ⟨(h.ft n q rs e).1, (h.ft n q rs e).2.1, Nat.le_trans (h.ft n q rs e).2.2 l⟩, h.s, h.st, h.l, h.ne⟩
theorem DueAt.fl {p : Addr} {kvs : List (Key × V)} {o : HO} (h : DueAt K H e0 e1 e2 e3 R F S L b) (e : H p = some (.dK kvs)) : ∀ n q rs, valG F n = some (q, rs) → (upd H p o) q = some (.lst (rrefs rs)) ∧ RowsOk K (upd H p o) rs ∧ rs.length ≤ b := fun n q rs ev => by
  obtain ⟨h1, h2, h3⟩ := h.ft n q rs ev
  exact ⟨by rw [upd_ne (fun z => by rw [z, e] at h1; cases h1)]; exact h1, h2.tk (Tk.dK e), h3⟩
theorem DueAt.rel {n : Str} {q : Addr} {c : List V} (h : DueAt K H e0 e1 e2 e3 R F S L b) (hq : SqT K H q c) : DueAt K (upd H e0 (.dK (putK (kvR R) (Sum.inr n) (.ref q)))) e0 e1 e2 e3 (putG R n (q, c)) F S L b := by
  have tk : Tk K H (upd H e0 (.dK (putK (kvR R) (Sum.inr n) (.ref q)))) := Tk.dK h.r
  obtain ⟨n1, n2, n3, n4, n5, n6⟩ := h.ne
  refine ⟨?_, fun m q' c' e => ?_, by rw [upd_ne n1.symm]; exact h.f, h.fl h.r, by rw [upd_ne n2.symm]; exact h.s, fun m q' c' e => tk _ _ (h.st m q' c' e), by rw [upd_ne n3.symm]; exact h.l, h.ne⟩
  · rw [upd_same]
    exact congrArg (fun t => some (HO.dK t)) (kvG_put (fun b : Addr × List V => V.ref b.1) R n (q, c))
  · rw [valG_put] at e
    split at e
    · cases e; exact tk _ _ hq
    · exact tk _ _ (h.rt m q' c' e)
theorem DueAt.stru {n : Str} {q : Addr} {c : List V} (h : DueAt K H e0 e1 e2 e3 R F S L b) (hq : SqT K H q c) : DueAt K (upd H e2 (.dK (putK (kvR S) (Sum.inr n) (.ref q)))) e0 e1 e2 e3 R F (putG S n (q, c)) L b := by
  have tk : Tk K H (upd H e2 (.dK (putK (kvR S) (Sum.inr n) (.ref q)))) := Tk.dK h.s
  obtain ⟨n1, n2, n3, n4, n5, n6⟩ := h.ne
  refine ⟨by rw [upd_ne n2]; exact h.r, fun m q' c' e => tk _ _ (h.rt m q' c' e), by rw [upd_ne n4]; exact h.f, h.fl h.s, ?_, fun m q' c' e => ?_, by rw [upd_ne n6.symm]; exact h.l, h.ne⟩
  · rw [upd_same]
    exact congrArg (fun t => some (HO.dK t)) (kvG_put (fun b : Addr × List V => V.ref b.1) S n (q, c))
  · rw [valG_put] at e
    split at e
    · cases e; exact tk _ _ hq
    · exact tk _ _ (h.st m q' c' e)
theorem DueAt.lay {n : Str} {v : V} (h : DueAt K H e0 e1 e2 e3 R F S L b) : DueAt K (upd H e3 (.dK (putK (kvG id L) (Sum.inr n) v))) e0 e1 e2 e3 R F S (putG L n v) b := by
  have tk : Tk K H (upd H e3 (.dK (putK (kvG id L) (Sum.inr n) v))) := Tk.dK h.l
  obtain ⟨n1, n2, n3, n4, n5, n6⟩ := h.ne
  refine ⟨by rw [upd_ne n3]; exact h.r, fun m q' c' e => tk _ _ (h.rt m q' c' e), by rw [upd_ne n5]; exact h.f, h.fl h.l, by rw [upd_ne n6]; exact h.s, fun m q' c' e => tk _ _ (h.st m q' c' e), ?_, h.ne⟩
  rw [upd_same]
  exact congrArg (fun t => some (HO.dK t)) (kvG_put id L n v)
theorem DueAt.fac {n : Str} {q : Addr} {rs : List (Addr × List V)} (h : DueAt K H e0 e1 e2 e3 R F S L b) (hq : H q = some (.lst (rrefs rs))) (ro : RowsOk K H rs) (lr : rs.length ≤ b) : DueAt K (upd H e1 (.dK (putK (kvF F) (Sum.inr n) (.ref q)))) e0 e1 e2 e3 R (putG F n (q, rs)) S L b := by
  have tk : Tk K H (upd H e1 (.dK (putK (kvF F) (Sum.inr n) (.ref q)))) := Tk.dK h.f
  obtain ⟨n1, n2, n3, n4, n5, n6⟩ := h.ne
  refine ⟨by rw [upd_ne n1]; exact h.r, fun m q' c' e => tk _ _ (h.rt m q' c' e), ?_, fun m q' rs' e => ?_, by rw [upd_ne n4.symm]; exact h.s, fun m q' c' e => tk _ _ (h.st m q' c' e), by rw [upd_ne n5.symm]; exact h.l, h.ne⟩
  · rw [upd_same]
    exact congrArg (fun t => some (HO.dK t)) (kvG_put (fun b : Addr × List (Addr × List V) => V.ref b.1) F n (q, rs))
  · rw [valG_put] at e
    split at e
    · cases e
      exact ⟨by rw [upd_ne (fun z => by rw [z, h.f] at hq; cases hq)]; exact hq, ro.tk tk, lr⟩
    · exact h.fl h.f m q' rs' e
end
theorem putG_map {β γ : Type} (g : β → γ) (l : List (Str × β)) (k : Str) (b : β) : (putG l k b).map (fun e => (e.1, g e.2)) = putG (l.map fun e => (e.1, g e.2)) k (g b) := by
  unfold putG
  have ea : ((l.map fun e => (e.1, g e.2)).any fun e => decide (e.1 = k)) = l.any fun e => decide (e.1 = k) := by rw [List.any_map]; rfl
  rw [ea]
  split
  · rw [List.map_map, List.map_map]
    refine List.map_congr_left fun e _ => ?_
    show ((if e.1 = k then (e.1, b) else e).1, g (if e.1 = k then (e.1, b) else e).2) = if e.1 = k then (e.1, g b) else (e.1, g e.2)
    split <;> rfl
  · rw [List.map_append]
    rfl
theorem plc_last {os : Its} {t : Addr × It} (so : ScI os) (st : tSc (te t)) (h : ∀ u ∈ os, tLt (te u) (te t)) : plc os t = os ++ [t] := by
  unfold plc
  have e1 : (os.filter fun u => decide (tOrd (te u) (te t) ≠ 0)) = os := List.filter_eq_self.mpr fun u m => decide_eq_true fun z => tEq_lt st ((tOrd_zero (so u m) st).mp z) (h u m)
  have e2 : (os.countP fun u => decide (tOrd (te u) (te t) < 0)) = os.length := List.countP_eq_length.mpr fun u m => decide_eq_true (h u m)
  rw [e1, e2, List.take_length, List.drop_length, List.append_nil]
theorem Rep.congr {os os' : Its} {R S : Tb} {F : Fb} {L : List (Str × V)} (h : Rep os R F S L) (e : ∀ i, Has os i ↔ Has os' i) : Rep os' R F S L := by
  refine ⟨fun n c => by rw [h.r, e], fun n c => by rw [h.s, e], fun n v => by rw [h.l, e], fun n row => ?_, fun n => ?_, h.fs, h.rn, h.sn, h.ln, h.fd⟩
  · rw [h.f]
    exact exists_congr fun r => e _
  · rw [h.fn]
    exact or_congr (exists_congr fun c => e _) (exists_congr fun r => exists_congr fun row => e _)
theorem nodup_len {α : Type} [DecidableEq α] : ∀ {xs ys : List α}, xs.Nodup → (∀ x ∈ xs, x ∈ ys) → xs.length ≤ ys.length
  | [], _, _, _ => Nat.zero_le _
  | x :: xs, ys, nd, h => by
    rw [List.nodup_cons] at nd
    have m := h x List.mem_cons_self
    have ih := nodup_len (xs := xs) (ys := ys.erase x) nd.2 fun z mz => (List.mem_erase_of_ne (fun e => nd.1 (by rw [← e]; exact mz))).mpr (h z (List.mem_cons_of_mem _ mz))
    rw [List.length_erase_of_mem m] at ih
    have := List.length_pos_of_mem m
    rw [List.length_cons]
    omega
theorem tab_len {β : Type} {T : List (Str × β)} {os : Its} (nd : (T.map (·.1)).Nodup) (h : ∀ n, (valG T n).isSome = true → ∃ t ∈ os, itn t.2 = n) : T.length ≤ os.length := by
  have := nodup_len (ys := os.map fun t => itn t.2) nd fun n m => by
    obtain ⟨t, mt, e⟩ := h n (valG_key.mp m)
    exact List.mem_map.mpr ⟨t, mt, e⟩
  rw [List.length_map, List.length_map] at this
  exact this
theorem Rep.len {os : Its} {R S : Tb} {F : Fb} {L : List (Str × V)} (h : Rep os R F S L) : R.length ≤ os.length ∧ F.length ≤ os.length ∧ S.length ≤ os.length ∧ L.length ≤ os.length := by
  refine ⟨tab_len h.rn fun n e => ?_, tab_len h.fd fun n e => ?_, tab_len h.sn fun n e => ?_, tab_len h.ln fun n e => ?_⟩
  · cases z : valG R n with
    | none => rw [z] at e; cases e
    | some b =>
      obtain ⟨a, m⟩ := (h.r n b.2).mp ⟨b.1, z⟩
      exact ⟨_, m, rfl⟩
  · rcases (h.fn n).mp e with ⟨c, a, m⟩ | ⟨r, row, a, m⟩
    · exact ⟨_, m, rfl⟩
    · exact ⟨_, m, rfl⟩
  · cases z : valG S n with
    | none => rw [z] at e; cases e
    | some b =>
      obtain ⟨a, m⟩ := (h.s n b.2).mp ⟨b.1, z⟩
      exact ⟨_, m, rfl⟩
  · cases z : valG L n with
    | none => rw [z] at e; cases e
    | some b =>
      obtain ⟨a, m⟩ := (h.l n b).mp z
      exact ⟨_, m, rfl⟩
/-- an item behind all others is put -/
theorem Rep.last {os : Its} {t : Addr × It} {R R' S S' : Tb} {F F' : Fb} {L L' : List (Str × V)} (h : Rep os R F S L) (p : PutI R F S L t.2 R' F' S' L') (so : ScI os) (st : tSc (te t)) (lt : ∀ u ∈ os, tLt (te u) (te t)) : Rep (os ++ [t]) R' F' S' L' := by
  rw [← plc_last so st lt]
  exact h.put p so st
/-- a fact behind all others is put, in a new list -/
theorem Rep.lastF {os : Its} {a : Addr} {n : Str} {r q : Addr} {row : List V} {R S : Tb} {F : Fb} {L : List (Str × V)} (h : Rep os R F S L) (so : ScI os) (st : ∀ v ∈ row, Scal v) (lt : ∀ u ∈ os, tLt (te u) (te (a, .fact n r row))) : Rep (os ++ [(a, .fact n r row)]) R (putG F n (q, rOf F n ++ [(r, row)])) S L := by
  have st' : tSc (te (a, .fact n r row)) := st
  cases e : valG F n with
  | none =>
    have er : rOf F n = [] := by unfold rOf; rw [e]
    rw [er]
    refine h.last (t := (a, .fact n r row)) ⟨⟨q, [], F ++ [(n, q, [])], 0, .inr ⟨e, rfl, rfl⟩, Nat.le_refl _, fun _ => ⟨(fun j t h => absurd h (Nat.not_lt_zero _)), fun j t _ h => by cases h⟩, .inr ⟨?_, fun t h => by cases h⟩⟩, rfl, rfl, rfl⟩ so st' lt
    show putG F n (q, [(r, row)]) = putG (F ++ [(n, q, [])]) n (q, [(r, row)])
    rw [← putG_new (q, ([] : List (Addr × List V))) e]
    have e2 : valG (putG F n (q, ([] : List (Addr × List V)))) n = some (q, []) := by rw [valG_put, if_pos rfl]
    rw [putG_new _ e, putG_new _ e]
    unfold putG
    have e3 : ((F ++ [(n, q, ([] : List (Addr × List V)))]).any fun e => decide (e.1 = n)) = true := by rw [List.any_append]; simp
    rw [e3, if_pos rfl, List.map_append]
    have e4 : F.map (fun x => if x.1 = n then (x.1, (q, [(r, row)])) else x) = F := by
      rw [show F.map (fun x => if x.1 = n then (x.1, (q, [(r, row)])) else x) = F.map id from List.map_congr_left fun x m => by rw [if_neg (valG_none e x m)]; rfl, List.map_id]
    rw [e4]
    show _ = F ++ [if n = n then (n, (q, [(r, row)])) else (n, q, [])]
    rw [if_pos rfl]
  | some b =>
    obtain ⟨q0, rs⟩ := b
    have er : rOf F n = rs := rOf_eq e
    rw [er]
    have hs := h.fs n q0 rs e
    have pl : Place rs row rs.length := by
      refine ⟨fun j t hj et => ?_, fun j t hj et => ?_⟩
      · obtain ⟨r', a', m⟩ := (h.f n t.2).mp ⟨q0, rs, e, t.1, List.mem_of_getElem? et⟩
        have l := (tLt_iff _ _).mp (lt _ m)
        rcases l with l | ⟨_, l | ⟨_, l⟩⟩
        · exact absurd (show (1 : Int) < 1 from l) (by decide)
        · exact absurd (show n.cps.toList < n.cps.toList from l) (List.lt_irrefl _)
        · exact l
      · have := (List.getElem?_eq_some_iff.mp et).1
        omega
    have h1 := h.last (t := (a, .fact n r row)) (R' := R) (S' := S) (L' := L) (F' := putG F n (q0, rs ++ [(r, row)])) ⟨⟨q0, rs, F, rs.length, .inl ⟨rfl, e⟩, Nat.le_refl _, fun _ => pl, .inr ⟨?_, fun t h => by rw [List.getElem?_eq_none (Nat.le_refl _)] at h; cases h⟩⟩, rfl, rfl, rfl⟩ so st' lt
    · refine h1.copyF ?_
      rw [putG_map (fun b : Addr × List (Addr × List V) => b.2), putG_map (fun b : Addr × List (Addr × List V) => b.2)]
    · rw [List.take_length, List.drop_length, List.append_nil]
end K1
namespace K1
open PySem PySem.Spec PyProof.Rows L2 Ow Tlz
theorem flds_no {m : Str} (a b c d : V) (h : ¬ m = "relations" ∧ ¬ m = "facts" ∧ ¬ m = "structures" ∧ ¬ m = "layouts") : (flds a b c d).lookup m = none := by
  unfold flds
  rw [lookup_putF, if_neg h.2.2.2, lookup_putF, if_neg h.2.2.1, lookup_putF, if_neg h.2.1, lookup_putF, if_neg h.1]
  rfl
/-- the methods of the class -/
structure Mths (P : Program) (w : World) (K : PySem.W.Frag) (mg : Str → Option Value) (base : Heap) (C : Addr) : Prop where
  al : ∃ (f : Addr) (fd : FuncData), Meth K C "all_items" f ∧ FnOk P w K mg base CX0 1 f fd ["self"] (spAll K C) ∧ Binds K fd ["self"] []
  ha : ∃ (f : Addr) (fd : FuncData), Meth K C "has" f ∧ FnOk P w K mg base CX0 4 f fd ["self", "relation", "row"] (spHas K C) ∧ Binds K fd ["self", "relation", "row"] []
  co : ∃ (f : Addr) (fd : FuncData), Meth K C "copy" f ∧ FnOk P w K mg base CX0 8 f fd ["self"] (spCopy K C) ∧ Binds K fd ["self"] []
def isRel : Addr × It → Bool
  | (_, .rel _ _) => true
  | _ => false
theorem valV_inl {β : Type} (vv : β → V) (i : Int) : ∀ l : List (Str × β), valV (kvG vv l) (Sum.inl i) = none
  | [] => rfl
  | e :: l => by
    have h1 : valV (kvG vv (e :: l)) (Sum.inl i) = valV (kvG vv l) (Sum.inl i) := valV_neg (p := ((Sum.inr e.1 : Key), vv e.2)) (fun z => by cases z)
    rw [h1]
    exact valV_inl vv i l
def spIsSt (K : PySem.W.Frag) (C : Addr) : Sp := fun vs H Q _ => ∃ (x o dr df ds dl : Addr) (Z : Addr → Prop) (R S : Tb) (F : Fb) (L : List (Str × V)) (b : Nat) (os : Its), vs = [.ref x, .ref o] ∧ StAt K C Z H x dr df ds dl R F S L b ∧ b ≤ 300 ∧
  SqL K H o (irf os) ∧ ItsG K H os ∧ KSrt os ∧ os.length ≤ 40 ∧ Rep os R F S L ∧ Mak H Q fun z _ => z = .bl true
abbrev s_law_is_state : Stmt := topS 34
abbrev N_law_is_state : List Str := ["actual", "ordered", "due", "item", "relations", "facts", "structures", "layouts"]
theorem sc_law_is_state : FnScope N_law_is_state ["actual", "ordered"] (defScope s_law_is_state) := ⟨rfl, rfl, rfl, by decide +kernel, rfl, by decide +kernel, by decide +kernel⟩
theorem has_filter {os : Its} {P : Addr × It → Bool} {i : It} : Has (os.filter P) i ↔ ∃ a, (a, i) ∈ os ∧ P (a, i) = true := by
  unfold Has
  exact exists_congr fun a => List.mem_filter
theorem filter_take {os : Its} {P : Addr × It → Bool} {j : Nat} {t : Addr × It} (e : os[j]? = some t) : (os.take (j + 1)).filter P = (os.take j).filter P ++ if P t = true then [t] else [] := by
  rw [take_snoc' e, List.filter_append, List.filter_cons, List.filter_nil]
/-- the dicts are equal: what is asked of them -/
theorem isd_tab {K : PySem.W.Frag} {H : Hp} {T T' : Tb} (rt : ∀ e ∈ T, SqT K H e.2.1 e.2.2) (rt' : ∀ n q c, valG T' n = some (q, c) → SqT K H q c) (h : ∀ n q c, valG T' n = some (q, c) → ∃ q', valG T n = some (q', c))
    (g : ∀ n q c, valG T n = some (q, c) → c.length ≤ 10 ∧ CD K H c) : ∀ k v, valV (kvR T') k = some v → ∃ v' d, valV (kvR T) k = some v' ∧ Dp K H v' d ∧ Dp K H v d ∧ Gd 2 d := by
  intro k v e
  cases k with
  | inl i => rw [show valV (kvR T') (Sum.inl i) = none from valV_inl _ i T'] at e; cases e
  | inr n =>
    rw [kvR_val] at e
    cases z : valG T' n with
    | none => rw [z] at e; cases e
    | some x =>
      rw [z] at e
      have ev : V.ref x.1 = v := Option.some.inj e
      obtain ⟨q', e'⟩ := h n x.1 x.2 z
      obtain ⟨l, ds, dp, gd, _⟩ := g n q' x.2 e'
      refine ⟨.ref q', .tuple ds, by rw [kvR_val, e']; rfl, .tup (rt _ (valG_mem e')) dp, ?_, Gd.tup (by rw [← DpAll.len dp]; omega) gd⟩
      rw [← ev]
      exact .tup (rt' n x.1 x.2 z) dp
section
variable {P : Program} {w : World} {K : PySem.W.Frag} {mg : Str → Option Value} {base : Heap} {C : Addr}
theorem ok_isst {f : Addr} {fd : FuncData} (F0 : Fun K "_law_is_state" "_law_is_state" s_law_is_state f fd) (T : Bl mg) (X : Txt K mg C) (Ms : Mths P w K mg base C)
    (D_law_is_dict : Kn P w K mg base 5 "_law_is_dict" ["actual", "expected"] (spIsD K))
    (D_law_same : Kn P w K mg base 5 "_law_same" ["actual", "expected"] (spSm K 4)) :
    FnOk P w K mg base CX0 6 f fd ["actual", "ordered"] (spIsSt K C) := by
  obtain ⟨fA, fdA, mA, GA, bA⟩ := Ms.al
  refine F0.ok sc_law_is_state (fun vs H Q E h => ?_) (fun cdv A outer s0 H vs Q E hr h => ?_)
  · obtain ⟨x, o, dr, df, ds, dl, Z, R, S, F, L, b, os, rfl, _⟩ := h
    rfl
  · obtain ⟨x, o, dr, df, ds, dl, Z, R, S, F, L, b, os, rfl, st, hb, ho, og, ks, lo, rep, q⟩ := h
    have hu := hu_of hr
    have hr1 := hr.mono (show 1 ≤ 5 by decide)
    refine ⟨_, (pss_cons (ps_set (i := 2) sc_law_is_state.nd rfl (.inl rfl) (pe_lst (pa_cons pe_dnewK (pa_cons pe_dnewK (pa_cons pe_dnewK (pa_cons pe_dnewK pa_nil))))))
      (pss_cons (ps_for PassesOwn.never rfl (pi_list (pv 1)) (pg_name (i := 3) sc_law_is_state.nd rfl (.inl rfl)) (pss_one (ps_if (pt_cmpR op_eq (pe_ix ix_tup (pv 3) pe_int (fun _ _ => rfl)) pe_str (nomark _)) (pss_cons (ps_set (i := 4) sc_law_is_state.nd rfl (.inl rfl) (pe_ix ix_list (pv 2) pe_int (fun _ _ => rfl)))
      (pss_cons (ps_dput hu (pv 4) (pe_ix ix_tup (pv 3) pe_int (fun _ _ => rfl)) (pe_tup (pa_cons (pe_ix ix_tup (pv 3) pe_int (fun _ _ => rfl)) (pa_cons (pe_ix ix_tup (pv 3) pe_int (fun _ _ => rfl)) pa_nil))) rfl)
      (pss_cons (ps_set (i := 5) sc_law_is_state.nd rfl (.inl rfl) (pe_ix ix_list (pv 2) pe_int (fun _ _ => rfl)))
      (pss_one (ps_dput hu (pv 5) (pe_ix ix_tup (pv 3) pe_int (fun _ _ => rfl)) (pe_lst pa_nil) rfl))))) pss_nil)))
      (pss_cons (ps_for PassesOwn.never rfl (pi_list (pv 1)) (pg_name (i := 3) sc_law_is_state.nd rfl (.inl rfl)) (pss_cons (ps_if (pt_cmpR op_eq (pe_ix ix_tup (pv 3) pe_int (fun _ _ => rfl)) pe_str (nomark _)) (pss_cons (ps_set (i := 5) sc_law_is_state.nd rfl (.inl rfl) (pe_ix ix_list (pv 2) pe_int (fun _ _ => rfl)))
      (pss_one (ps_dput hu (pv 5) (pe_ix ix_tup (pv 3) pe_int (fun _ _ => rfl)) (pe_op op_cat (pe_dget2 hu (pv 5) (pe_ix ix_tup (pv 3) pe_int (fun _ _ => rfl)) (pe_lst pa_nil) ⟨rfl, rfl, rfl, rfl⟩) (pe_lst (pa_cons (pe_ix ix_tup (pv 3) pe_int (fun _ _ => rfl)) pa_nil))) rfl))) pss_nil)
      (pss_cons (ps_if (pt_cmpR op_eq (pe_ix ix_tup (pv 3) pe_int (fun _ _ => rfl)) pe_str (nomark _)) (pss_cons (ps_set (i := 6) sc_law_is_state.nd rfl (.inl rfl) (pe_ix ix_list (pv 2) pe_int (fun _ _ => rfl)))
      (pss_one (ps_dput hu (pv 6) (pe_ix ix_tup (pv 3) pe_int (fun _ _ => rfl)) (pe_slice sl_tupA (pv 3) (po_some pe_int) po_none) rfl))) pss_nil)
      (pss_one (ps_if (pt_cmpR op_eq (pe_ix ix_tup (pv 3) pe_int (fun _ _ => rfl)) pe_str (nomark _)) (pss_cons (ps_set (i := 7) sc_law_is_state.nd rfl (.inl rfl) (pe_ix ix_list (pv 2) pe_int (fun _ _ => rfl)))
      (pss_one (ps_dput hu (pv 7) (pe_ix ix_tup (pv 3) pe_int (fun _ _ => rfl)) (pe_ix ix_tup (pv 3) pe_int (fun _ _ => rfl)) rfl))) pss_nil)))))
      (pss_cons (ps_if (PW.pt (pw_or (pt_not (pt_val (pe_kn D_law_is_dict hr (pa_cons (pe_fld (pv 0) rfl) (pa_cons (pe_ix ix_list (pv 2) pe_int (fun _ _ => rfl)) pa_nil))))) (pw_or1 (pt_not (pt_val (pe_kn D_law_is_dict hr (pa_cons (pe_fld (pv 0) rfl) (pa_cons (pe_ix ix_list (pv 2) pe_int (fun _ _ => rfl)) pa_nil)))))))) (pss_one (ps_ret pe_bl)) pss_nil)
      (pss_cons (ps_if (PW.pt (pw_or (pt_not (pt_val (pe_kn D_law_is_dict hr (pa_cons (pe_fld (pv 0) rfl) (pa_cons (pe_ix ix_list (pv 2) pe_int (fun _ _ => rfl)) pa_nil))))) (pw_or1 (pt_not (pt_val (pe_kn D_law_is_dict hr (pa_cons (pe_fld (pv 0) rfl) (pa_cons (pe_ix ix_list (pv 2) pe_int (fun _ _ => rfl)) pa_nil)))))))) (pss_one (ps_ret pe_bl)) pss_nil)
      (pss_one (ps_ret (pe_kn D_law_same hr (pa_cons (pe_meth0 (pv 0) X.cl mA GA hr1 bA .nil pass0) (pa_cons (pv 1) pa_nil)))))))))), ?_⟩
    have so := og.sc
    have n1 : ∀ {u v : Str}, u ≠ v → ¬ decide (V.str u = V.str v) = true := fun h e => h (V.str.inj (of_decide_eq_true e))
    have big : ∀ {β : Type} (vv : β → V) (l : List (Str × β)), l.length ≤ 60 → (kvG vv l).length < sizeLine := fun vv l hl => by
      rw [kvG_len]
      exact small (m := 1000) (by omega) (by decide)
    -- the four dicts
    refine fun e0 m0 => fun e1 m1 => fun e2 m2 => fun e3 m3 => ⟨sz 4, fun du ndu => ?_⟩
    have m1' : (upd H e0 (.dK [])) e1 = none := m1
    have s4 : Same H (upd (upd (upd (upd (upd H e0 (.dK [])) e1 (.dK [])) e2 (.dK [])) e3 (.dK [])) du (.lst [.ref e0, .ref e1, .ref e2, .ref e3])) := ((((Same.new m0).trans (Same.new m1)).trans (Same.new m2)).trans (Same.new m3)).trans (Same.new ndu)
    have x0 : (upd (upd (upd (upd (upd H e0 (.dK [])) e1 (.dK [])) e2 (.dK [])) e3 (.dK [])) du (.lst [.ref e0, .ref e1, .ref e2, .ref e3])) e0 = some (.dK []) := (((Same.new m1).trans (Same.new m2)).trans (Same.new m3)).trans (Same.new ndu) _ _ upd_same
    have x1 : (upd (upd (upd (upd (upd H e0 (.dK [])) e1 (.dK [])) e2 (.dK [])) e3 (.dK [])) du (.lst [.ref e0, .ref e1, .ref e2, .ref e3])) e1 = some (.dK []) := ((Same.new m2).trans (Same.new m3)).trans (Same.new ndu) _ _ upd_same
    have x2 : (upd (upd (upd (upd (upd H e0 (.dK [])) e1 (.dK [])) e2 (.dK [])) e3 (.dK [])) du (.lst [.ref e0, .ref e1, .ref e2, .ref e3])) e2 = some (.dK []) := (Same.new m3).trans (Same.new ndu) _ _ upd_same
    have x3 : (upd (upd (upd (upd (upd H e0 (.dK [])) e1 (.dK [])) e2 (.dK [])) e3 (.dK [])) du (.lst [.ref e0, .ref e1, .ref e2, .ref e3])) e3 = some (.dK []) := (Same.new ndu) _ _ upd_same
    have xd : (upd (upd (upd (upd (upd H e0 (.dK [])) e1 (.dK [])) e2 (.dK [])) e3 (.dK [])) du (.lst [.ref e0, .ref e1, .ref e2, .ref e3])) du = some (.lst [.ref e0, .ref e1, .ref e2, .ref e3]) := upd_same
    have n01 : e0 ≠ e1 := ne_of_none upd_same m1
    have n02 : e0 ≠ e2 := ne_of_none ((Same.new m1) _ _ upd_same) m2
    have n03 : e0 ≠ e3 := ne_of_none (((Same.new m1).trans (Same.new m2)) _ _ upd_same) m3
    have n12 : e1 ≠ e2 := ne_of_none upd_same m2
    have n13 : e1 ≠ e3 := ne_of_none ((Same.new m2) _ _ upd_same) m3
    have n23 : e2 ≠ e3 := ne_of_none upd_same m3
    have k0 : H e0 = none := m0
    have k1 : H e1 = none := (Same.new m0).free m1
    have k2 : H e2 = none := ((Same.new m0).trans (Same.new m1)).free m2
    have k3 : H e3 = none := (((Same.new m0).trans (Same.new m1)).trans (Same.new m2)).free m3
    clear m1' m1 m2 m3 ndu
    generalize (upd (upd (upd (upd (upd H e0 (.dK [])) e1 (.dK [])) e2 (.dK [])) e3 (.dK [])) du (.lst [.ref e0, .ref e1, .ref e2, .ref e3])) = H1 at *
    have da : DueAt K H1 e0 e1 e2 e3 [] [] [] [] 0 := ⟨x0, (fun n q c e => by cases e), x1, (fun n q rs e => by cases e), x2, (fun n q c e => by cases e), x3, n01, n02, n03, n12, n13, n23⟩
    clear x0 x1 x2 x3
    have dn0 : ∀ {H9 : Hp} {us : List V}, H9 du = some (.lst us) → ∀ {p : Addr} {kvs : List (Key × V)}, H9 p = some (.dK kvs) → du ≠ p := by
      intro H9 us h p kvs g z
      rw [z, g] at h
      cases h
    -- the relations
    refine ⟨_, rfl, o, rfl, ⟨_, s4.seq ho⟩, for_list (K := K) (a := o) (xs := irf os) (fun j σ H4 => ∃ (y3 y4 y5 : Option V) (R' : Tb) (F' : Fb), σ = [some (.ref x), some (.ref o), some (.ref du), y3, y4, y5, none, none] ∧ Same H H4 ∧ H4 du = some (.lst [.ref e0, .ref e1, .ref e2, .ref e3]) ∧
        DueAt K H4 e0 e1 e2 e3 R' F' [] [] 0 ∧ Rep ((os.take j).filter isRel) R' F' [] [])
      ⟨none, none, none, [], [], rfl, s4, xd, da, Rep.nil⟩ (fun j σ H4 _ hP => ?_) (fun j y σ H4 hy hP => ?_) (fun σ H4 hP => ?_)⟩
    · obtain ⟨_, _, _, _, _, _, s5, _⟩ := hP
      exact s5.seq ho
    · obtain ⟨y3, y4, y5, R', F', rfl, s5, ed, da, rp⟩ := hP
      obtain ⟨⟨a, i⟩, et, rfl⟩ := irf_get hy
      have mt := List.mem_of_getElem? et
      have jl : j < os.length := (List.getElem?_eq_some_iff.mp et).1
      have ig := (og _ mt).same s5
      have ft := filter_take (P := isRel) et
      obtain ⟨lR, lF, _, _⟩ := rp.len
      have lf := List.length_filter_le isRel (os.take j)
      rw [List.length_take] at lf
      cases i with
      | rel n c =>
        have ht : SqT K H4 a (.str "relation" :: .str n :: c) := ig.at_
        have lc : c.length = 2 := ig.l
        obtain ⟨u, v, ec⟩ : ∃ u v, c = [u, v] := by
          match c, lc with
          | [u, v], _ => exact ⟨u, v, rfl⟩
        subst ec
        refine ⟨_, rfl, a, _, 0, _, rfl, rfl, ht, at_of (j := 0) rfl rfl, rfl, _, rfl, ite2 (fun _ => ?_) (fun e => absurd (decide_eq_true rfl) e)⟩
        refine ⟨_, rfl, du, _, 0, .ref e0, rfl, rfl, SqL.of ed, at_of (j := 0) rfl rfl, ?_⟩
        refine ⟨_, rfl, a, _, 2, u, rfl, rfl, ht, at_of (j := 2) rfl rfl, _, rfl, a, _, 3, v, rfl, rfl, ht, at_of (j := 3) rfl rfl, sz 2, fun p np => ?_⟩
        have s6 := Same.new (o := .tup [u, v]) np
        have e6 := upd_same (H := H4) (a := p) (o := .tup [u, v])
        generalize (upd H4 p (.tup [u, v])) = H6 at *
        have da6 := da.same s6
        have dp := DPut.k (k := Sum.inr n) (v := .ref p) da6.r (big _ R' (by omega))
        refine ⟨_, rfl, _, rfl, a, _, 1, .str n, rfl, rfl, Tk.same s6 _ _ ht, at_of (j := 1) rfl rfl, e0, _, rfl, dp, ?_⟩
        have da7 := da6.rel (n := n) (SqT.of e6)
        have s7 : Same H (upd H6 e0 (.dK (putK (kvR R') (Sum.inr n) (.ref p)))) := Same.over (s5.trans s6) k0
        have ed7 : (upd H6 e0 (.dK (putK (kvR R') (Sum.inr n) (.ref p)))) du = some (.lst [.ref e0, .ref e1, .ref e2, .ref e3]) := by rw [upd_ne (dn0 (s6 _ _ ed) da6.r)]; exact s6 _ _ ed
        have tk7 : Tk K H4 (upd H6 e0 (.dK (putK (kvR R') (Sum.inr n) (.ref p)))) := (Tk.same s6).trans (Tk.dK da6.r)
        generalize (upd H6 e0 (.dK (putK (kvR R') (Sum.inr n) (.ref p)))) = H7 at *
        refine ⟨_, rfl, du, _, 1, .ref e1, rfl, rfl, SqL.of ed7, at_of (j := 1) rfl rfl, ?_⟩
        refine ⟨sz 0, fun p2 np2 => ?_⟩
        have s8 := Same.new (o := .lst []) np2
        have e8 := upd_same (H := H7) (a := p2) (o := .lst [])
        generalize (upd H7 p2 (.lst [])) = H8 at *
        have da8 := da7.same s8
        have dp2 := DPut.k (k := Sum.inr n) (v := .ref p2) da8.f (big _ F' (by omega))
        refine ⟨_, rfl, _, rfl, a, _, 1, .str n, rfl, rfl, (tk7.trans (Tk.same s8)) _ _ ht, at_of (j := 1) rfl rfl, e1, _, rfl, dp2, ?_⟩
        have da9 := da8.fac (n := n) (rs := []) e8 (fun _ m => nomatch m) (Nat.le_refl _)
        have s9 : Same H (upd H8 e1 (.dK (putK (kvF F') (Sum.inr n) (.ref p2)))) := Same.over (s7.trans s8) k1
        have ed9 : (upd H8 e1 (.dK (putK (kvF F') (Sum.inr n) (.ref p2)))) du = some (.lst [.ref e0, .ref e1, .ref e2, .ref e3]) := by rw [upd_ne (dn0 (s8 _ _ ed7) da8.f)]; exact s8 _ _ ed7
        refine ⟨_, _, _, _, _, rfl, s9, ed9, da9, ?_⟩
        have fn : valG F' n = none := by
          cases z : valG F' n with
          | none => rfl
          | some bb =>
            have w1 := (rp.fn n).mp (by rw [z]; rfl)
            rcases w1 with ⟨c', hc⟩ | ⟨r, row, hc⟩
            · obtain ⟨a', m', _⟩ := has_filter.mp hc
              obtain ⟨k, hk⟩ := List.mem_iff_getElem?.mp m'
              have kj : k < j := by
                have := (List.getElem?_eq_some_iff.mp hk).1
                rw [List.length_take] at this
                omega
              rw [List.getElem?_take_of_lt kj] at hk
              obtain ⟨pk, ek⟩ := List.getElem?_eq_some_iff.mp hk
              obtain ⟨pj, ej⟩ := List.getElem?_eq_some_iff.mp et
              have l := List.pairwise_iff_getElem.mp ks k j pk pj kj
              rw [ek, ej] at l
              exact (tEq_lt (so _ mt) (eq_rel.mpr rfl) l).elim
            · obtain ⟨a', m', z'⟩ := has_filter.mp hc
              cases z'
        rw [ft]
        refine rp.last (t := (a, .rel n [u, v])) ⟨⟨p, rfl⟩, .inr ⟨p2, fn, putG_new _ fn⟩, rfl, rfl⟩ (fun u m => so u (List.mem_of_mem_take (List.mem_filter.mp m).1)) (so _ mt) fun u m => ?_
        obtain ⟨k, hk⟩ := List.mem_iff_getElem?.mp (List.mem_filter.mp m).1
        have kj : k < j := by
          have := (List.getElem?_eq_some_iff.mp hk).1
          rw [List.length_take] at this
          omega
        rw [List.getElem?_take_of_lt kj] at hk
        obtain ⟨pk, ek⟩ := List.getElem?_eq_some_iff.mp hk
        obtain ⟨pj, ej⟩ := List.getElem?_eq_some_iff.mp et
        have l := List.pairwise_iff_getElem.mp ks k j pk pj kj
        rw [ek, ej] at l
        exact l
      | fact n r row =>
        refine ⟨_, rfl, a, _, 0, _, rfl, rfl, ig.at_.1, at_of (j := 0) rfl rfl, rfl, _, rfl, ite2 (fun e => absurd e (n1 (by decide +kernel))) (fun _ => ?_)⟩
        rw [ft]
        exact ⟨_, _, _, _, _, rfl, s5, ed, da, by rw [show isRel (a, It.fact n r row) = false from rfl, if_neg Bool.false_ne_true, List.append_nil]; exact rp⟩
      | str n c =>
        refine ⟨_, rfl, a, _, 0, _, rfl, rfl, ig.at_, at_of (j := 0) rfl rfl, rfl, _, rfl, ite2 (fun e => absurd e (n1 (by decide +kernel))) (fun _ => ?_)⟩
        rw [ft]
        exact ⟨_, _, _, _, _, rfl, s5, ed, da, by rw [show isRel (a, It.str n c) = false from rfl, if_neg Bool.false_ne_true, List.append_nil]; exact rp⟩
      | lay n v =>
        refine ⟨_, rfl, a, _, 0, _, rfl, rfl, ig.at_, at_of (j := 0) rfl rfl, rfl, _, rfl, ite2 (fun e => absurd e (n1 (by decide +kernel))) (fun _ => ?_)⟩
        rw [ft]
        exact ⟨_, _, _, _, _, rfl, s5, ed, da, by rw [show isRel (a, It.lay n v) = false from rfl, if_neg Bool.false_ne_true, List.append_nil]; exact rp⟩
    obtain ⟨y3, y4, y5, R1, F1, rfl, s5, ed, da, rp⟩ := hP
    rw [irf_len, List.take_length] at rp
    clear s4 xd
    -- the others
    refine ⟨_, rfl, o, rfl, ⟨_, s5.seq ho⟩, for_list (K := K) (a := o) (xs := irf os) (fun j σ H4 => ∃ (y3 y5 y6 y7 : Option V) (F' : Fb) (S' : Tb) (L' : List (Str × V)), σ = [some (.ref x), some (.ref o), some (.ref du), y3, y4, y5, y6, y7] ∧ Same H H4 ∧ H4 du = some (.lst [.ref e0, .ref e1, .ref e2, .ref e3]) ∧
        DueAt K H4 e0 e1 e2 e3 R1 F' S' L' j ∧ Rep (os.filter isRel ++ (os.take j).filter fun t => !isRel t) R1 F' S' L')
      ⟨y3, y5, none, none, F1, [], [], rfl, s5, ed, da, by rw [List.take_zero, List.filter_nil, List.append_nil]; exact rp⟩ (fun j σ H4 _ hP => ?_) (fun j y σ H4 hy hP => ?_) (fun σ H4 hP => ?_)⟩
    · obtain ⟨_, _, _, _, _, _, _, _, s6, _⟩ := hP
      exact s6.seq ho
    · obtain ⟨y3, y5, y6, y7, F', S', L', rfl, s6, ed, da, rp⟩ := hP
      obtain ⟨⟨a, i⟩, et, rfl⟩ := irf_get hy
      have mt := List.mem_of_getElem? et
      have jl : j < os.length := (List.getElem?_eq_some_iff.mp et).1
      have ig := (og _ mt).same s6
      have ft := filter_take (P := fun t => !isRel t) et
      have sp : ScI (os.filter isRel ++ (os.take j).filter fun t => !isRel t) := fun u m => by
        rcases List.mem_append.mp m with m | m
        · exact so u (List.mem_filter.mp m).1
        · exact so u (List.mem_of_mem_take (List.mem_filter.mp m).1)
      have lt : isRel (a, i) = false → ∀ u ∈ os.filter isRel ++ (os.take j).filter fun t => !isRel t, tLt (te u) (te (a, i)) := fun hi u m => by
        rcases List.mem_append.mp m with m | m
        · obtain ⟨m, hu⟩ := List.mem_filter.mp m
          obtain ⟨b', i'⟩ := u
          cases i' with
          | rel n' c' =>
            refine (tLt_iff _ _).mpr (.inl ?_)
            cases i with
            | rel n c => cases hi
            | fact n r row => show (0 : Int) < 1; decide
            | str n c => show (0 : Int) < 2; decide
            | lay n v => show (0 : Int) < 3; decide
          | _ => cases hu
        · obtain ⟨k, hk⟩ := List.mem_iff_getElem?.mp (List.mem_filter.mp m).1
          have kj : k < j := by
            have := (List.getElem?_eq_some_iff.mp hk).1
            rw [List.length_take] at this
            omega
          rw [List.getElem?_take_of_lt kj] at hk
          obtain ⟨pk, ek⟩ := List.getElem?_eq_some_iff.mp hk
          obtain ⟨pj, ej⟩ := List.getElem?_eq_some_iff.mp et
          have l := List.pairwise_iff_getElem.mp ks k j pk pj kj
          rw [ek, ej] at l
          exact l
      obtain ⟨lR, lF, lS, lL⟩ := rp.len
      have lf := List.length_filter_le (fun t => !isRel t) (os.take j)
      have lf2 := List.length_filter_le isRel os
      rw [List.length_take] at lf
      rw [List.length_append] at lR lF lS lL
      have lF' : F'.length ≤ 60 ∨ 60 < F'.length := by omega
      have wle : F'.length ≤ 80 := by omega
      have big2 : ∀ {β : Type} (vv : β → V) (l : List (Str × β)), l.length ≤ 80 → (kvG vv l).length < sizeLine := fun vv l hl => by
        rw [kvG_len]
        exact small (m := 1000) (by omega) (by decide)
      cases i with
      | rel n c =>
        refine ⟨_, rfl, a, _, 0, _, rfl, rfl, ig.at_, at_of (j := 0) rfl rfl, rfl, _, rfl, ite2 (fun e => absurd e (n1 (by decide +kernel))) (fun _ => ?_)⟩
        refine ⟨_, rfl, a, _, 0, _, rfl, rfl, ig.at_, at_of (j := 0) rfl rfl, rfl, _, rfl, ite2 (fun e => absurd e (n1 (by decide +kernel))) (fun _ => ?_)⟩
        refine ⟨_, rfl, a, _, 0, _, rfl, rfl, ig.at_, at_of (j := 0) rfl rfl, rfl, _, rfl, ite2 (fun e => absurd e (n1 (by decide +kernel))) (fun _ => ?_)⟩
        rw [ft]
        exact ⟨_, _, _, _, _, _, _, rfl, s6, ed, da.up (by omega), by rw [show (!isRel (a, It.rel n c)) = false from rfl, if_neg Bool.false_ne_true, List.append_nil]; exact rp⟩
      | fact n r row =>
        obtain ⟨ht, hrow, srow, lrow⟩ := ig.at_
        refine ⟨_, rfl, a, _, 0, _, rfl, rfl, ht, at_of (j := 0) rfl rfl, rfl, _, rfl, ite2 (fun _ => ?_) (fun e => absurd (decide_eq_true rfl) e)⟩
        refine ⟨_, rfl, du, _, 1, .ref e1, rfl, rfl, SqL.of ed, at_of (j := 1) rfl rfl, ?_⟩
        refine ⟨_, rfl, e1, rfl, .inl ⟨_, .inl da.f⟩, _, rfl, a, _, 1, .str n, rfl, rfl, ht, at_of (j := 1) rfl rfl, sz 0, fun p np => ?_⟩
        have s7 := Same.new (o := .lst []) np
        have e7 := upd_same (H := H4) (a := p) (o := .lst [])
        generalize (upd H4 p (.lst [])) = H7 at *
        have da7 := da.same s7
        have fnd : ∃ (z : Option V) (l : Addr), DGet H7 e1 (.str n) z ∧ z.getD (.ref p) = .ref l ∧ H7 l = some (.lst (rrefs (rOf F' n))) ∧ RowsOk K H7 (rOf F' n) ∧ (rOf F' n).length ≤ j := by
          cases e : valG F' n with
          | none =>
            have er : rOf F' n = [] := by unfold rOf; rw [e]
            rw [er]
            exact ⟨none, p, .inl ⟨kvF F', Sum.inr n, .inl da7.f, rfl, by rw [kvF_val, e]; rfl⟩, rfl, e7, (fun _ m => nomatch m), Nat.zero_le _⟩
          | some b' =>
            obtain ⟨q0, rs⟩ := b'
            rw [rOf_eq e]
            obtain ⟨h1, h2, h3⟩ := da7.ft n q0 rs e
            exact ⟨some (.ref q0), q0, dgetF (.inl da7.f) e, rfl, h1, h2, h3⟩
        obtain ⟨z, l, dg, ez, hl, hro, hlen⟩ := fnd
        refine ⟨z, dg, ?_⟩
        rw [ez]
        refine ⟨_, rfl, a, _, 2, .ref r, rfl, rfl, Tk.same s7 _ _ ht, at_of (j := 2) rfl rfl, sz 1, fun p2 np2 => ?_⟩
        have s8 := Same.new (o := .lst [V.ref r]) np2
        have e8 := upd_same (H := H7) (a := p2) (o := .lst [V.ref r])
        generalize (upd H7 p2 (.lst [V.ref r])) = H8 at *
        refine ⟨l, p2, _, _, rfl, rfl, s8 _ _ hl, e8, sz _ (by rw [rrefs_len]; show _ + 1 ≤ 1000; omega), fun p3 np3 => ?_⟩
        have s9 := Same.new (o := .lst (rrefs (rOf F' n) ++ [V.ref r])) np3
        have e9 := upd_same (H := H8) (a := p3) (o := .lst (rrefs (rOf F' n) ++ [V.ref r]))
        generalize (upd H8 p3 (.lst (rrefs (rOf F' n) ++ [V.ref r]))) = H9 at *
        have s79 := (s7.trans s8).trans s9
        have da9 := da.same s79
        have dp2 := DPut.k (k := Sum.inr n) (v := .ref p3) da9.f (big2 _ F' wle)
        refine ⟨_, rfl, _, rfl, a, _, 1, .str n, rfl, rfl, Tk.same s79 _ _ ht, at_of (j := 1) rfl rfl, e1, _, rfl, dp2, ?_⟩
        have er9 : rrefs (rOf F' n) ++ [V.ref r] = rrefs (rOf F' n ++ [(r, row)]) := (rrefs_snoc (t := (r, row))).symm
        rw [er9] at e9
        have da10 := (da9.up (c := j + 1) (by omega)).fac (n := n) e9 ((hro.same (s8.trans s9)).snoc (Tk.same s79 _ _ hrow) srow lrow) (by rw [List.length_append]; show _ + 1 ≤ j + 1; omega)
        have s10 : Same H (upd H9 e1 (.dK (putK (kvF F') (Sum.inr n) (.ref p3)))) := Same.over (s6.trans s79) k1
        have ed9 := s79 _ _ ed
        have ed10 : (upd H9 e1 (.dK (putK (kvF F') (Sum.inr n) (.ref p3)))) du = some (.lst [.ref e0, .ref e1, .ref e2, .ref e3]) := by rw [upd_ne (dn0 ed9 da9.f)]; exact ed9
        have tk10 : Tk K H4 (upd H9 e1 (.dK (putK (kvF F') (Sum.inr n) (.ref p3)))) := (Tk.same s79).trans (Tk.dK da9.f)
        generalize (upd H9 e1 (.dK (putK (kvF F') (Sum.inr n) (.ref p3)))) = H10 at *
        refine ⟨_, rfl, a, _, 0, _, rfl, rfl, tk10 _ _ ht, at_of (j := 0) rfl rfl, rfl, _, rfl, ite2 (fun e => absurd e (n1 (by decide +kernel))) (fun _ => ?_)⟩
        refine ⟨_, rfl, a, _, 0, _, rfl, rfl, tk10 _ _ ht, at_of (j := 0) rfl rfl, rfl, _, rfl, ite2 (fun e => absurd e (n1 (by decide +kernel))) (fun _ => ?_)⟩
        refine ⟨_, _, _, _, _, _, _, rfl, s10, ed10, da10, ?_⟩
        rw [ft, show (!isRel (a, It.fact n r row)) = true from rfl, if_pos rfl, ← List.append_assoc]
        exact rp.lastF sp srow (lt rfl)
      | str n c =>
        have ht : SqT K H4 a (.str "structure" :: .str n :: c) := ig.at_
        refine ⟨_, rfl, a, _, 0, _, rfl, rfl, ht, at_of (j := 0) rfl rfl, rfl, _, rfl, ite2 (fun e => absurd e (n1 (by decide +kernel))) (fun _ => ?_)⟩
        refine ⟨_, rfl, a, _, 0, _, rfl, rfl, ht, at_of (j := 0) rfl rfl, rfl, _, rfl, ite2 (fun _ => ?_) (fun e => absurd (decide_eq_true rfl) e)⟩
        refine ⟨_, rfl, du, _, 2, .ref e2, rfl, rfl, SqL.of ed, at_of (j := 2) rfl rfl, ?_⟩
        refine ⟨_, rfl, 2, rfl, a, _, rfl, ht, fun w => absurd w (cut2 _ _ c).2, fun _ p np => ?_⟩
        rw [(cut2 _ _ c).1]
        have s7 := Same.new (o := .tup c) np
        have e7 := upd_same (H := H4) (a := p) (o := .tup c)
        generalize (upd H4 p (.tup c)) = H7 at *
        have da7 := da.same s7
        have dp2 := DPut.k (k := Sum.inr n) (v := .ref p) da7.s (big2 _ S' (by omega))
        refine ⟨_, rfl, _, rfl, a, _, 1, .str n, rfl, rfl, Tk.same s7 _ _ ht, at_of (j := 1) rfl rfl, e2, _, rfl, dp2, ?_⟩
        have da8 := (da7.up (c := j + 1) (by omega)).stru (n := n) (SqT.of e7)
        have s8 : Same H (upd H7 e2 (.dK (putK (kvR S') (Sum.inr n) (.ref p)))) := Same.over (s6.trans s7) k2
        have ed8 : (upd H7 e2 (.dK (putK (kvR S') (Sum.inr n) (.ref p)))) du = some (.lst [.ref e0, .ref e1, .ref e2, .ref e3]) := by rw [upd_ne (dn0 (s7 _ _ ed) da7.s)]; exact s7 _ _ ed
        have tk8 : Tk K H4 (upd H7 e2 (.dK (putK (kvR S') (Sum.inr n) (.ref p)))) := (Tk.same s7).trans (Tk.dK da7.s)
        generalize (upd H7 e2 (.dK (putK (kvR S') (Sum.inr n) (.ref p)))) = H8 at *
        refine ⟨_, rfl, a, _, 0, _, rfl, rfl, tk8 _ _ ht, at_of (j := 0) rfl rfl, rfl, _, rfl, ite2 (fun e => absurd e (n1 (by decide +kernel))) (fun _ => ?_)⟩
        refine ⟨_, _, _, _, _, _, _, rfl, s8, ed8, da8, ?_⟩
        rw [ft, show (!isRel (a, It.str n c)) = true from rfl, if_pos rfl, ← List.append_assoc]
        exact rp.last (t := (a, .str n c)) ⟨⟨p, rfl⟩, rfl, rfl, rfl⟩ sp (so _ mt) (lt rfl)
      | lay n v =>
        have ht : SqT K H4 a [.str "layout", .str n, v] := ig.at_
        refine ⟨_, rfl, a, _, 0, _, rfl, rfl, ht, at_of (j := 0) rfl rfl, rfl, _, rfl, ite2 (fun e => absurd e (n1 (by decide +kernel))) (fun _ => ?_)⟩
        refine ⟨_, rfl, a, _, 0, _, rfl, rfl, ht, at_of (j := 0) rfl rfl, rfl, _, rfl, ite2 (fun e => absurd e (n1 (by decide +kernel))) (fun _ => ?_)⟩
        refine ⟨_, rfl, a, _, 0, _, rfl, rfl, ht, at_of (j := 0) rfl rfl, rfl, _, rfl, ite2 (fun _ => ?_) (fun e => absurd (decide_eq_true rfl) e)⟩
        refine ⟨_, rfl, du, _, 3, .ref e3, rfl, rfl, SqL.of ed, at_of (j := 3) rfl rfl, ?_⟩
        have dp2 := DPut.k (k := Sum.inr n) (v := v) da.l (big2 _ L' (by omega))
        refine ⟨_, rfl, a, _, 2, v, rfl, rfl, ht, at_of (j := 2) rfl rfl, _, rfl, _, rfl, a, _, 1, .str n, rfl, rfl, ht, at_of (j := 1) rfl rfl, e3, _, rfl, dp2, ?_⟩
        have ed8 : (upd H4 e3 (.dK (putK (kvG id L') (Sum.inr n) v))) du = some (.lst [.ref e0, .ref e1, .ref e2, .ref e3]) := by rw [upd_ne (dn0 ed da.l)]; exact ed
        refine ⟨_, _, _, _, _, _, _, rfl, Same.over s6 k3, ed8, (da.up (c := j + 1) (by omega)).lay (n := n), ?_⟩
        rw [ft, show (!isRel (a, It.lay n v)) = true from rfl, if_pos rfl, ← List.append_assoc]
        exact rp.last (t := (a, .lay n v)) ⟨rfl, rfl, rfl, rfl⟩ sp (so _ mt) (lt rfl)
    obtain ⟨y3, y5, y6, y7, F', S', L', rfl, s6, ed, da, rp⟩ := hP
    rw [irf_len] at da rp
    rw [List.take_length] at rp
    clear s5
    have rp2 : Rep os R1 F' S' L' := rp.congr fun i => by
      unfold Has
      refine exists_congr fun a => ?_
      rw [List.mem_append, List.mem_filter, List.mem_filter]
      cases isRel (a, i) <;> simp
    have tg := (TabG.of rep og).same s6
    have st6 := st.same s6
    obtain ⟨dx, ob⟩ := st6.ob
    have ne0 : dr ≠ e0 := ne_of_none st.r k0
    have ne1 : df ≠ e1 := ne_of_none st.f k1
    have ne2 : ds ≠ e2 := ne_of_none st.s k2
    have ne3 : dl ≠ e3 := ne_of_none st.l k3
    obtain ⟨lR, vR⟩ := rep.eqR rp2
    obtain ⟨lF, vF⟩ := rep.eqF rp2
    obtain ⟨lS, vS⟩ := rep.eqS rp2
    obtain ⟨lL, vL⟩ := rep.eqL rp2
    obtain ⟨bR, bF, bS, bL⟩ := rep.len
    -- relations, facts
    refine ⟨_, rfl, x, C, dx, _, _, rfl, ob, X.cl, X.nR, flds_r _ _ _ _, _, rfl, du, _, 0, .ref e0, rfl, rfl, SqL.of ed, at_of (j := 0) rfl rfl, dr, e0, kvR R, kvR R1, rfl, st6.r, da.r, ne0, by unfold kvR; rw [kvG_len, kvG_len, lR], isd_tab st6.rt da.rt vR (fun n q c e => ⟨by have := (tg.r n q c e).2.1; omega, (tg.r n q c e).2.2⟩), ?_⟩
    rintro z7 H7 rfl s7
    refine ⟨_, rfl, ?_⟩
    refine iteF ?_
    have st7 := st6.same s7
    have da7 := da.same s7
    refine ⟨_, rfl, x, C, dx, _, _, rfl, s7 _ _ ob, X.cl, X.nF, flds_f _ _ _ _, _, rfl, du, _, 1, .ref e1, rfl, rfl, SqL.of (s7 _ _ ed), at_of (j := 1) rfl rfl, df, e1, kvF F, kvF F', rfl, st7.f, da7.f, ne1, by unfold kvF; rw [kvG_len, kvG_len, lF], ?_, ?_⟩
    · intro k v e
      cases k with
      | inl i => rw [show valV (kvF F') (Sum.inl i) = none from valV_inl _ i F'] at e; cases e
      | inr n =>
        rw [kvF_val] at e
        cases z : valG F' n with
        | none => rw [z] at e; cases e
        | some xx =>
          rw [z] at e
          have ev : V.ref xx.1 = v := Option.some.inj e
          obtain ⟨q', rs', e', er⟩ := vF n xx.1 xx.2 z
          obtain ⟨h1, h2, h3⟩ := da7.ft n xx.1 xx.2 z
          obtain ⟨h4, h5, h6⟩ := st7.ft _ (valG_mem e')
          have h6' : rs'.length ≤ b := h6
          have ed1 : rs'.map (fun t => rowD t.2) = xx.2.map fun t => rowD t.2 := by
            have := congrArg (List.map rowD) er
            rw [List.map_map, List.map_map] at this
            exact this
          refine ⟨.ref q', .list (rs'.map fun t => rowD t.2), by rw [kvF_val, e']; rfl, .lst (SqL.of h4) (rws_dp h5), ?_, Gd.lst (by rw [List.length_map]; omega) fun d m => ?_⟩
          · rw [← ev, ed1]
            exact .lst (SqL.of h1) (rws_dp h2)
          · obtain ⟨t, mt, rfl⟩ := List.mem_map.mp m
            exact Gd.row (h5 t mt).2.1 (by have := (h5 t mt).2.2; omega)
    rintro z8 H8 rfl s8
    refine ⟨_, rfl, ?_⟩
    refine iteF ?_
    have s78 := s7.trans s8
    have st8 := st6.same s78
    have da8 := da.same s78
    have tg8 := tg.same s78
    -- structures, layouts
    refine ⟨_, rfl, x, C, dx, _, _, rfl, s78 _ _ ob, X.cl, X.nS, flds_s _ _ _ _, _, rfl, du, _, 2, .ref e2, rfl, rfl, SqL.of (s78 _ _ ed), at_of (j := 2) rfl rfl, ds, e2, kvR S, kvR S', rfl, st8.s, da8.s, ne2, by unfold kvR; rw [kvG_len, kvG_len, lS], isd_tab st8.st da8.st vS (fun n q c e => ⟨by have := (tg8.s n q c e).2.1; omega, (tg8.s n q c e).2.2⟩), ?_⟩
    rintro z9 H9 rfl s9
    refine ⟨_, rfl, ?_⟩
    refine iteF ?_
    have s79 := s78.trans s9
    have st9 := st6.same s79
    have da9 := da.same s79
    have tg9 := tg.same s79
    refine ⟨_, rfl, x, C, dx, _, _, rfl, s79 _ _ ob, X.cl, X.nL, flds_l _ _ _ _, _, rfl, du, _, 3, .ref e3, rfl, rfl, SqL.of (s79 _ _ ed), at_of (j := 3) rfl rfl, dl, e3, kvG id L, kvG id L', rfl, st9.l, da9.l, ne3, by rw [kvG_len, kvG_len, lL], ?_, ?_⟩
    · intro k v e
      cases k with
      | inl i => rw [show valV (kvG id L') (Sum.inl i) = none from valV_inl _ i L'] at e; cases e
      | inr n =>
        rw [kvG_val] at e
        cases z : valG L' n with
        | none => rw [z] at e; cases e
        | some v' =>
          rw [z] at e
          have ev : v' = v := Option.some.inj e
          subst ev
          have e' := vL n v' z
          obtain ⟨_, ds', dp, gd, _⟩ := tg9.l n v' e'
          cases dp with
          | cons p1 p2 => exact ⟨v', _, by rw [kvG_val, e']; rfl, p1, p1, (gd _ List.mem_cons_self).up (by omega)⟩
    rintro z10 H10 rfl s10
    refine ⟨_, rfl, ?_⟩
    refine iteF ?_
    have s70 := s79.trans s10
    have st10 := st6.same s70
    -- all items
    refine ⟨_, rfl, x, dx, _, rfl, s70 _ _ ob, flds_no _ _ _ _ (by decide +kernel), ?_⟩
    refine ⟨x, dr, df, ds, dl, Z, R, S, F, L, b, rfl, st10, hb, tg.same s70, by omega, by omega, by omega, by omega, fun its p ys fs ss ls H11 py sy pf sf ps ss' pl sl ee s11 np ep ig => ?_⟩
    have s611 := (s6.trans s70).trans s11
    have eqt := ee.trans (allE_eq rep ks so py sy pf sf ps ss' pl sl)
    obtain ⟨dd, d1, d2, gd⟩ := its_data ig (og.same s611) eqt
    have ll : dd.length ≤ 1000 := by
      have := DpAll.len d2
      rw [irf_len] at this
      omega
    have gl := Gd.lst ll gd
    refine ⟨_, rfl, .ref p, .ref o, .list dd, rfl, .lst (SqL.of ep) d1, .lst (s611.seq ho) d2, gl.i, gl.d, ?_⟩
    rintro z12 H12 rfl s12
    exact q _ _ rfl (s611.trans s12)
end
end K1
namespace K1
open PySem PySem.Spec PyProof.Rows L2 Ow Tlz
/-- what stays of a State when other places change -/
theorem StAt.fr {K : PySem.W.Frag} {C x dr df ds dl : Addr} {Z Y : Addr → Prop} {H H' : Hp} {R S : Tb} {F : Fb} {L : List (Str × V)} {b : Nat} (h : StAt K C Z H x dr df ds dl R F S L b) (kp : Kp Y H H') (t : Tk K H H')
    (y : ∀ a, (a = x ∨ a = dr ∨ a = df ∨ a = ds ∨ a = dl ∨ ∃ e ∈ F, e.2.1 = a) → ¬ Y a) (nn : ∀ a, H' a = none → H a = none) : StAt K C Z H' x dr df ds dl R F S L b := by
  obtain ⟨⟨dx, ob⟩, r, rt, f, ft, fz, fp, fn, s', st, l, z, ne, nw, ln⟩ := h
  refine ⟨⟨dx, kp _ _ (y x (.inl rfl)) ob⟩, kp _ _ (y dr (.inr (.inl rfl))) r, fun e m => t _ _ (rt e m), kp _ _ (y df (.inr (.inr (.inl rfl)))) f, fun e m => ⟨kp _ _ (y _ (.inr (.inr (.inr (.inr (.inr ⟨e, m, rfl⟩)))))) (ft e m).1, (ft e m).2.1.tk t, (ft e m).2.2⟩,
    fz, fp, fn, kp _ _ (y ds (.inr (.inr (.inr (.inl rfl))))) s', fun e m => t _ _ (st e m), kp _ _ (y dl (.inr (.inr (.inr (.inr (.inl rfl)))))) l, z, ne, fun a n => nw a (nn a n), ln⟩
/-- the places of a State -/
theorem StAt.own {K : PySem.W.Frag} {C x dr df ds dl : Addr} {Z : Addr → Prop} {H : Hp} {R S : Tb} {F : Fb} {L : List (Str × V)} {b : Nat} (h : StAt K C Z H x dr df ds dl R F S L b) {a : Addr} (m : a = x ∨ a = dr ∨ a = df ∨ a = ds ∨ a = dl ∨ ∃ e ∈ F, e.2.1 = a) : a = x ∨ Z a := by
  rcases m with m | m | m | m | m | ⟨e, m, m2⟩
  · exact .inl m
  · rw [m]; exact .inr h.z.1
  · rw [m]; exact .inr h.z.2.1
  · rw [m]; exact .inr h.z.2.2.1
  · rw [m]; exact .inr h.z.2.2.2.1
  · rw [← m2]; exact .inr (h.fz e m)
/-- a list changes that the State has not -/
theorem StAt.gwp {K : PySem.W.Frag} {C x dr df ds dl p : Addr} {Z : Addr → Prop} {H H' : Hp} {R S : Tb} {F : Fb} {L : List (Str × V)} {b : Nat} {us ws : List V} (h : StAt K C Z H x dr df ds dl R F S L b) (hp : H p = some (.lst us)) (nz : ¬ Z p) (g : Gw p H H') (hp' : H' p = some (.lst ws)) : StAt K C Z H' x dr df ds dl R F S L b := by
  refine h.fr (Y := fun a => a = p) (fun a o n e => g a o n e) (Tk.gw hp g) (fun a m z => ?_) fun a n => ?_
  · rcases h.own m with e | e
    · obtain ⟨dx, ob⟩ := h.ob
      rw [← e, z, hp] at ob
      cases ob
    · exact nz (by rw [← z]; exact e)
  · exact g.free n fun z => by rw [z, hp'] at n; cases n
theorem eqv_fact {K : PySem.W.Frag} {H : Hp} {a : Addr} {i : It} (h : ItG K H a i) (n : Str) {row : List V} (sr : ∀ x ∈ row, Scal x) : ∃ d, Dp K H (.ref a) d ∧ Gd 2 d ∧ (PyData.eqv d (.tuple [.str "fact", .str n, rowD row]) = true ↔ ∃ r, i = .fact n r row) := by
  have wd : ∀ {w : Str} {xs : List PyData}, ¬ w = PySem.Str.ofString "fact" → PyData.eqv (.tuple (.str w :: xs)) (.tuple [.str "fact", .str n, rowD row]) = false := fun {w xs} ne => by
    rw [eqv_tup, eqv_cons, eqv_str]
    have : (w == PySem.Str.ofString "fact") = false := by simpa using ne
    rw [this]
    rfl
  cases i with
  | rel m c =>
    obtain ⟨d, d1, _, g⟩ := it_data h h rfl
    have h0 : SqT K H a (.str "relation" :: .str m :: c) := h.at_
    obtain ⟨ds, hd, hg, _⟩ := h.c
    have hd' : DpAll K H c ds := hd
    have gl : Gd 2 (.tuple (.str "relation" :: .str m :: ds)) := Gd.tup (k := 1) (by have := DpAll.len hd'; have := h.l; simp [cnt, cln] at this; rw [List.length_cons, List.length_cons]; omega) fun x mx => by
      rcases List.mem_cons.mp mx with z | mx
      · rw [z]; exact (Gd.str (by decide +kernel)).up (by omega)
      · rcases List.mem_cons.mp mx with z | mx
        · rw [z]; exact (Gd.str h.n).up (by omega)
        · exact hg x mx
    refine ⟨_, .tup h0 (.cons (.str _) (.cons (.str _) hd')), gl, ?_⟩
    rw [wd (by decide +kernel)]
    exact ⟨fun z => (by cases z), fun ⟨r, z⟩ => (by cases z)⟩
  | str m c =>
    have h0 : SqT K H a (.str "structure" :: .str m :: c) := h.at_
    obtain ⟨ds, hd, hg, _⟩ := h.c
    have hd' : DpAll K H c ds := hd
    have gl : Gd 2 (.tuple (.str "structure" :: .str m :: ds)) := Gd.tup (k := 1) (by have := DpAll.len hd'; have := h.l; simp [cnt, cln] at this; rw [List.length_cons, List.length_cons]; omega) fun x mx => by
      rcases List.mem_cons.mp mx with z | mx
      · rw [z]; exact (Gd.str (by decide +kernel)).up (by omega)
      · rcases List.mem_cons.mp mx with z | mx
        · rw [z]; exact (Gd.str h.n).up (by omega)
        · exact hg x mx
    refine ⟨_, .tup h0 (.cons (.str _) (.cons (.str _) hd')), gl, ?_⟩
    rw [wd (by decide +kernel)]
    exact ⟨fun z => (by cases z), fun ⟨r, z⟩ => (by cases z)⟩
  | lay m v =>
    have h0 : SqT K H a [.str "layout", .str m, v] := h.at_
    obtain ⟨ds, hd, hg, _⟩ := h.c
    have hd' : DpAll K H [v] ds := hd
    have gl : Gd 2 (.tuple (.str "layout" :: .str m :: ds)) := Gd.tup (k := 1) (by have := DpAll.len hd'; rw [List.length_cons, List.length_cons]; show ds.length + 2 ≤ 1000; rw [← this]; show 1 + 2 ≤ 1000; decide) fun x mx => by
      rcases List.mem_cons.mp mx with z | mx
      · rw [z]; exact (Gd.str (by decide +kernel)).up (by omega)
      · rcases List.mem_cons.mp mx with z | mx
        · rw [z]; exact (Gd.str h.n).up (by omega)
        · exact hg x mx
    refine ⟨_, .tup h0 (.cons (.str _) (.cons (.str _) hd')), gl, ?_⟩
    rw [wd (by decide +kernel)]
    exact ⟨fun z => (by cases z), fun ⟨r, z⟩ => (by cases z)⟩
  | fact m r row' =>
    obtain ⟨h1, h2, h3, h4⟩ := h.at_
    refine ⟨.tuple [.str "fact", .str m, rowD row'], .tup h1 (.cons (.str _) (.cons (.str _) (.cons (.tup h2 (sc_dp h3)) .nil))), ?_, ?_⟩
    · refine Gd.tup (by show 3 ≤ 1000; decide) fun d mm => ?_
      simp only [List.mem_cons, List.not_mem_nil, or_false] at mm
      rcases mm with z | z | z
      · rw [z]; exact (Gd.str (by decide +kernel)).up (by omega)
      · rw [z]; exact (Gd.str h.n).up (by omega)
      · rw [z]; exact Gd.row h3 (by omega)
    · rw [eqv_tup, eqv_cons, eqv_cons, eqv_cons, eqv_nil, eqv_str, eqv_str, eqv_row h3 sr, Bool.and_true]
      constructor
      · intro z
        rw [Bool.and_eq_true, Bool.and_eq_true] at z
        have e1 : m = n := by simpa using z.2.1
        have e2 : row' = row := of_decide_eq_true z.2.2
        exact ⟨r, by rw [e1, e2]⟩
      · rintro ⟨r', z⟩
        have e1 : m = n := (It.fact.inj z).1
        have e2 : row' = row := (It.fact.inj z).2.2
        subst e1 e2
        simp
theorem its_in {K : PySem.W.Frag} {H : Hp} (n : Str) {row : List V} (sr : ∀ x ∈ row, Scal x) : ∀ {os : Its}, ItsG K H os → ∃ ds, DpAll K H (irf os) ds ∧ (∀ d ∈ ds, Gd 2 d) ∧ ((ds.any fun z => PyData.eqv z (.tuple [.str "fact", .str n, rowD row])) = true ↔ ∃ r, Has os (.fact n r row))
  | [], _ => ⟨[], .nil, (fun _ m => nomatch m), ⟨(fun z => nomatch z), fun ⟨r, a, m⟩ => nomatch m⟩⟩
  | t :: os, h => by
    obtain ⟨ds, a, b, c⟩ := its_in n sr (os := os) fun u m => h u (List.mem_cons_of_mem _ m)
    obtain ⟨d, p, g, e⟩ := eqv_fact (h t List.mem_cons_self) n sr
    refine ⟨d :: ds, .cons p a, fun x m => ?_, ?_⟩
    · rcases List.mem_cons.mp m with z | m
      · rw [z]; exact g
      · exact b x m
    · rw [List.any_cons, Bool.or_eq_true, e, c]
      constructor
      · rintro (⟨r, z⟩ | ⟨r, a', m⟩)
        · exact ⟨r, t.1, by rw [← z]; exact List.mem_cons_self⟩
        · exact ⟨r, a', List.mem_cons_of_mem _ m⟩
      · rintro ⟨r, a', m⟩
        rcases List.mem_cons.mp m with z | m
        · exact .inl ⟨r, by rw [← z]⟩
        · exact .inr ⟨r, a', m⟩
mutual
theorem eqv_self : ∀ d : PyData, ist d = true → PyData.eqv d d = true
  | .none, _ => by simp [PyData.eqv]
  | .bool _, _ => by simp [PyData.eqv]
  | .int _, _ => by simp [PyData.eqv]
  | .str _, _ => by simp [PyData.eqv]
  | .list xs, h => by
    rw [ist, Bool.and_eq_true] at h
    rw [PyData.eqv]
    exact eqvAll_self xs h.2
  | .tuple xs, h => by
    rw [ist, Bool.and_eq_true] at h
    rw [PyData.eqv]
    exact eqvAll_self xs h.2
theorem eqvAll_self : ∀ ds : List PyData, ists ds = true → PyData.eqvAll ds ds = true
  | [], _ => by rw [PyData.eqvAll]
  | d :: ds, h => by
    rw [ists, Bool.and_eq_true] at h
    rw [PyData.eqvAll, eqv_self d h.1, eqvAll_self ds h.2]
    rfl
end
end K1
/-! more of Ow: methods, makings, comprehensions -/
namespace Ow
open PySem PySem.Spec PyProof.Rows L2
def rListK (K : PySem.W.Frag) : List V → Hp → VK → Prop := fun xs H Q => ∃ p ys, xs = [V.ref p] ∧ (SqL K H p ys ∨ SqT K H p ys) ∧ ∀ l, H l = none → Q (.ref l) (upd H l (.lst ys))
theorem call_list_K {X : Cx} {K : PySem.W.Frag} (e : X.K = K) : CallR X (.type "list") (rListK K) := by
  subst e
  exact call_list_of
theorem call_min_K {X : Cx} {K : PySem.W.Frag} (e : X.K = K) (hc : X.calm = true) : CallR X (.builtin "min") (rMin K) := by
  subst e
  exact cr_min hc
theorem call_max_K {X : Cx} {K : PySem.W.Frag} (e : X.K = K) (hc : X.calm = true) : CallR X (.builtin "max") (rMax K) := by
  subst e
  exact cr_max hc
theorem call_sum_K {X : Cx} {K : PySem.W.Frag} (e : X.K = K) (hc : X.calm = true) : CallR X (.builtin "sum") (rSum K) := by
  subst e
  exact cr_sum hc
/-- a comprehension whose turns leave what was: of the turns i with p i the value ys i -/
theorem lc_fl {J : L2.It} {n : Nat} {G : Hp → Prop} {Y : Nat → Hp → V → Hp → Prop} (w : Walk J n G Y) (p : Nat → Bool) (ys : Nat → V) (hn : n < sizeLine) {g : TG} {tt : TT} {te : TE} {vs : List Nat} {σ : L2.St} {H1 : Hp} {D : Addr} {Qd : Hp → Prop} (hD : H1 D = none)
    (hG : ∀ H, Same H1 H → G H)
    (hs : ∀ i x H H' (N : VK) (M : Hp → Prop), i < n → Same H1 H → Y i H x H' → (p i = true → ∀ H4, Same H H4 → N (ys i) H4) → (p i = false → ∀ H4, Same H H4 → M H4) →
      g x (wipe σ vs) H' fun σ2 H2 => wipe σ2 vs = wipe σ vs ∧ tt σ2 H2 fun b H3 => if b = true then te σ2 H3 N else M H3)
    (hd : ∀ H, Same H1 H → H D = some (.lst (((List.range n).filter p).map ys)) → Qd H) :
    ∃ W : Nat → Nat → Hp → Prop, (∃ m, W 0 m (upd H1 D (.lst []))) ∧ ∀ i m H, W i m H →
      (J.stop i H ∧ Qd H) ∨ (J.go i H ∧ ∃ Nx : Hp → Prop, (∀ H', Nx H' → ∃ m', m' < m ∧ W (i + 1) m' H') ∧ ∀ x H', J.yld i H x H' → g x (wipe σ vs) H' fun σ2 H2 => wipe σ2 vs = wipe σ vs ∧ tt σ2 H2 fun b H3 =>
        if b = true then te σ2 H3 fun y H4 => ∃ acc, H4 D = some (.lst acc) ∧ acc.length < sizeLine ∧ Nx (upd H4 D (.lst (acc ++ [y]))) else Nx H3) := by
  have pre : ∀ i, (((List.range i).filter p).map ys).length ≤ i := fun i => by
    rw [List.length_map]
    exact Nat.le_trans (List.length_filter_le _ _) (by rw [List.length_range]; exact Nat.le_refl _)
  refine lc_it w (fun i H => Same H1 H ∧ H D = some (.lst (((List.range i).filter p).map ys))) ⟨Same.new hD, upd_same⟩ (fun i H _ h => hG H h.1) (fun i x H H' hi h y => ?_) fun H h => hd H h.1 h.2
  have st : ((List.range (i + 1)).filter p).map ys = ((List.range i).filter p).map ys ++ (if p i = true then [ys i] else []) := by
    rw [List.range_succ, List.filter_append, List.map_append]
    cases e : p i <;> simp [List.filter, e]
  refine hs i x H H' _ _ hi h.1 y (fun e H4 s4 => ?_) fun e H4 s4 => ?_
  · refine ⟨_, s4 _ _ h.2, Nat.lt_of_le_of_lt (pre i) (Nat.lt_trans hi hn), Same.over (h.1.trans s4) hD, ?_⟩
    rw [upd_same, st, if_pos e]
  · refine ⟨h.1.trans s4, ?_⟩
    rw [s4 _ _ h.2, st, e, if_neg (by decide), List.append_nil]
theorem filter_all {α : Type} (xs : List α) : xs.filter (fun _ => true) = xs := by
  induction xs with
  | nil => rfl
  | cons x r ih => simp [List.filter, ih]
/-- every turn gives a value -/
theorem lc_mk {J : L2.It} {n : Nat} {G : Hp → Prop} {Y : Nat → Hp → V → Hp → Prop} (w : Walk J n G Y) (ys : Nat → V) (hn : n < sizeLine) {g : TG} {te : TE} {vs : List Nat} {σ : L2.St} {H1 : Hp} {D : Addr} {Qd : Hp → Prop} (hD : H1 D = none)
    (hG : ∀ H, Same H1 H → G H)
    (hs : ∀ i x H H' (N : VK), i < n → Same H1 H → Y i H x H' → (∀ H4, Same H H4 → N (ys i) H4) → g x (wipe σ vs) H' fun σ2 H2 => wipe σ2 vs = wipe σ vs ∧ te σ2 H2 N)
    (hd : ∀ H, Same H1 H → H D = some (.lst ((List.range n).map ys)) → Qd H) :
    ∃ W : Nat → Nat → Hp → Prop, (∃ m, W 0 m (upd H1 D (.lst []))) ∧ ∀ i m H, W i m H →
      (J.stop i H ∧ Qd H) ∨ (J.go i H ∧ ∃ Nx : Hp → Prop, (∀ H', Nx H' → ∃ m', m' < m ∧ W (i + 1) m' H') ∧ ∀ x H', J.yld i H x H' → g x (wipe σ vs) H' fun σ2 H2 => wipe σ2 vs = wipe σ vs ∧ tYes σ2 H2 fun b H3 =>
        if b = true then te σ2 H3 fun y H4 => ∃ acc, H4 D = some (.lst acc) ∧ acc.length < sizeLine ∧ Nx (upd H4 D (.lst (acc ++ [y]))) else Nx H3) :=
  lc_fl w (fun _ => true) ys hn hD hG (fun i x H H' N M hi s y h1 _ => hs i x H H' N hi s y (h1 rfl)) (by rw [filter_all]; exact hd)
/-- every turn gives a new list, of the row i -/
theorem lc_new {J : L2.It} {n : Nat} {G : Hp → Prop} {Y : Nat → Hp → V → Hp → Prop} (w : Walk J n G Y) (row : Nat → List V) (hn : n < sizeLine) {g : TG} {te : TE} {vs : List Nat} {σ : L2.St} {H1 : Hp} {D : Addr} {Qd : Hp → Prop} (hD : H1 D = none)
    (hG : ∀ H, Same H1 H → G H)
    (hs : ∀ i x H H' (N : VK), i < n → Same H1 H → Y i H x H' → (∀ H4 q, Same H H4 → H q = none → H4 q = some (.lst (row i)) → N (.ref q) H4) → g x (wipe σ vs) H' fun σ2 H2 => wipe σ2 vs = wipe σ vs ∧ te σ2 H2 N)
    (hd : ∀ (H : Hp) (ts : List Addr), Same H1 H → H D = some (.lst (ts.map V.ref)) → ts.length = n → (∀ i t, ts[i]? = some t → H1 t = none ∧ t ≠ D ∧ H t = some (.lst (row i))) → Qd H) :
    ∃ W : Nat → Nat → Hp → Prop, (∃ m, W 0 m (upd H1 D (.lst []))) ∧ ∀ i m H, W i m H →
      (J.stop i H ∧ Qd H) ∨ (J.go i H ∧ ∃ Nx : Hp → Prop, (∀ H', Nx H' → ∃ m', m' < m ∧ W (i + 1) m' H') ∧ ∀ x H', J.yld i H x H' → g x (wipe σ vs) H' fun σ2 H2 => wipe σ2 vs = wipe σ vs ∧ tYes σ2 H2 fun b H3 =>
        if b = true then te σ2 H3 fun y H4 => ∃ acc, H4 D = some (.lst acc) ∧ acc.length < sizeLine ∧ Nx (upd H4 D (.lst (acc ++ [y]))) else Nx H3) := by
  refine lc_it w (fun i H => Same H1 H ∧ ∃ ts : List Addr, H D = some (.lst (ts.map V.ref)) ∧ ts.length = i ∧ ∀ j t, ts[j]? = some t → H1 t = none ∧ t ≠ D ∧ H t = some (.lst (row j))) ⟨Same.new hD, [], upd_same, rfl, fun j t e => by simp at e⟩ (fun i H _ h => hG H h.1) (fun i x H H' hi h y => ?_) fun H h => ?_
  · obtain ⟨s, ts, eD, el, et⟩ := h
    refine hs i x H H' _ hi s y fun H4 q s4 nq eq => ?_
    have qD : q ≠ D := fun z => by rw [z, eD] at nq; cases nq
    refine ⟨_, s4 _ _ eD, by rw [List.length_map, el]; exact Nat.lt_trans hi hn, Same.over (s.trans s4) hD, ts ++ [q], ?_, by rw [List.length_append, el]; rfl, fun j t ej => ?_⟩
    · rw [upd_same, List.map_append]
      rfl
    · rcases Nat.lt_trichotomy j ts.length with h1 | h1 | h1
      · rw [List.getElem?_append_left h1] at ej
        obtain ⟨f1, f2, f3⟩ := et j t ej
        exact ⟨f1, f2, by rw [upd_ne f2]; exact s4 _ _ f3⟩
      · subst h1
        have e2 : q = t := by simpa using ej
        subst e2
        refine ⟨?_, qD, by rw [upd_ne qD, el]; exact eq⟩
        cases z : H1 q with
        | none => rfl
        | some o => rw [s q o z] at nq; cases nq
      · rw [List.getElem?_eq_none (by rw [List.length_append, List.length_singleton]; omega)] at ej
        cases ej
  · obtain ⟨s, ts, eD, el, et⟩ := h
    exact hd H ts s eD el et
/-- the method m of the class C keeps sp, by k levels -/
structure Kmt (P : Program) (w : World) (K : PySem.W.Frag) (mg : Str → Option Value) (base : Heap) (C : Addr) (k : Nat) (m : Str) (ps : List Str) (sp : Sp) : Prop where
  ex : ∃ f fd, Meth K C m f ∧ FnOk P w K mg base CX0 k f fd ps sp ∧ Binds K fd ps []
  cl : Cls K C
theorem pe_mt {X : Cx} {k j : Nat} {C : Addr} {m : Str} {ps : List Str} {sp : Sp} {o e : Expr} {es : List Expr} {ta : TE} {t : TA} {apos pos : Pos} {pl : Sem Bool} (c : Kmt X.prog X.w X.K X.mg X.base C k m ps sp) (hr : Room j X.A) (he : PE X o ta) (ha : PA X (e :: es) t) (hk : k ≤ j := by decide)
    (hst : starEach (e :: es) X.env = (false, eval e X.env) :: starEach es X.env := by rfl) (hpl : (backTo pos (starEach es X.env)).any (·.1) = false := by rfl)
    (ht : eval (.Call (.Attribute o m apos) (e :: es) [] pos) X.env = (do
      let ov ← eval o X.env; standAt apos.atName
      let (f, first) ← holding [ov] (getMethod ov m pl)
      callWith pos f first (backTo pos (starEach (e :: es) X.env)) (backToKw pos (keywordEach [] X.env))) := by rfl) :
    PE X (.Call (.Attribute o m apos) (e :: es) [] pos) (tMeth C m sp [] E0 ta t) := by
  obtain ⟨f, fd, hm, F, b⟩ := c.ex
  exact pe_meth he c.cl hm F (hr.mono hk) b .nil pass0 ha hst hpl ht
theorem pi_list_K {X : Cx} {K : PySem.W.Frag} (eK : X.K = K) {tg l : Expr} {tl : TE} (h : PE X l tl) : PI X tg l (iList K tl) := by
  subst eK
  exact pi_list h
theorem sqt_same {K : PySem.W.Frag} {H H' : Hp} {t : Addr} {xs : List V} (s : Same H H') (e : SqT K H t xs) : SqT K H' t xs := by
  rcases e with (h | ⟨o, h⟩) | h
  · exact .inl (.inl (s _ _ h))
  · exact .inl (.inr ⟨o, s _ _ h⟩)
  · exact .inr h
theorem pe_mt0 {X : Cx} {k j : Nat} {C : Addr} {m : Str} {ps : List Str} {sp : Sp} {o : Expr} {ta : TE} {apos pos : Pos} {pl : Sem Bool} (c : Kmt X.prog X.w X.K X.mg X.base C k m ps sp) (hr : Room j X.A) (he : PE X o ta) (hk : k ≤ j := by decide)
    (ht : eval (.Call (.Attribute o m apos) [] [] pos) X.env = (do
      let ov ← eval o X.env; standAt apos.atName
      let (f, first) ← holding [ov] (getMethod ov m pl)
      callWith pos f first (backTo pos (starEach [] X.env)) (backToKw pos (keywordEach [] X.env))) := by rfl) :
    PE X (.Call (.Attribute o m apos) [] [] pos) (tMeth C m sp [] E0 ta tNil) := by
  obtain ⟨f, fd, hm, F, b⟩ := c.ex
  exact pe_meth0 he c.cl hm F (hr.mono hk) b .nil pass0 ht
/-- the class C is made by an __init__ that keeps sp, by k levels -/
structure Kmk (P : Program) (w : World) (K : PySem.W.Frag) (mg : Str → Option Value) (base : Heap) (C : Addr) (k : Nat) (ps : List Str) (sp : Sp) : Prop where
  ex : ∃ f fd, Mk K C f ∧ FnOk P w K mg base CX0 k f fd ps sp ∧ Binds K fd ps []
theorem pe_mk {X : Cx} {k j : Nat} {C : Addr} {x : Str} {ps : List Str} {sp : Sp} {e : Expr} {es : List Expr} {t : TA} {p pos : Pos} (c : Kmk X.prog X.w X.K X.mg X.base C k ps sp) (hm : X.mg x = some (.ref C)) (hr : Room j X.A) (ha : PA X (e :: es) t) (hk : k + 1 ≤ j := by decide) (hg : Gl X x := by rfl)
    (hdb : (x == ("__debug__" : Str)) = false := by decide) (he : starEach (e :: es) X.env = (false, eval e X.env) :: starEach es X.env := by rfl) (hpl : (backTo pos (starEach es X.env)).any (·.1) = false := by rfl) :
    PE X (.Call (.Name x p) (e :: es) [] pos) (tMake C sp [] E0 t) := by
  obtain ⟨f, fd, M, F, b⟩ := c.ex
  exact pe_make M F (hr.mono hk) hg hm b .nil pass0 ha hdb he hpl
end Ow
namespace K1
open PySem PySem.Spec PyProof.Rows L2 Ow Tlz
/-! items and changes by their values -/
inductive Fv where
  | rel (n : Str) (cs : List Str) (r : Nat)
  | fact (n : Str) (row : List V)
  | str (n rn : Str) (cs : List Str) (b s : Nat)
  | lay (n : Str) (cs : List Str)
def StrOk (z : Str) : Prop := Pr z ∧ z.length ≤ 200
def StrsOk (cs : List Str) : Prop := cs.length ≤ 10 ∧ ∀ z ∈ cs, StrOk z
def FvOk : Fv → Prop
  | .rel n cs r => StrOk n ∧ StrsOk cs ∧ r ≤ 10000
  | .fact n row => StrOk n ∧ (∀ x ∈ row, Scal x) ∧ row.length ≤ 10
  | .str n rn cs b s => StrOk n ∧ StrOk rn ∧ StrsOk cs ∧ b ≤ 10000 ∧ s ≤ 10000
  | .lay n cs => StrOk n ∧ StrsOk cs
def namesB (cs : List Str) : List Int := listB (cs.map strB)
def fvB : Fv → List Int
  | .rel n cs r => 0 :: strB n ++ namesB cs ++ numB r
  | .fact n row => 1 :: strB n ++ rowB row
  | .str n rn cs b s => 2 :: strB n ++ strB rn ++ namesB cs ++ (numB b ++ numB s)
  | .lay n cs => 3 :: strB n ++ namesB cs
def FvAt (K : PySem.W.Frag) (H : Hp) (x : V) : Fv → Prop
  | .rel n cs r => ∃ a ct, x = .ref a ∧ SqT K H a [.str "relation", .str n, .ref ct, .int (r : Nat)] ∧ SqT K H ct (cs.map V.str)
  | .fact n row => ∃ a r, x = .ref a ∧ SqT K H a [.str "fact", .str n, .ref r] ∧ SqT K H r row
  | .str n rn cs b s => ∃ a ct, x = .ref a ∧ SqT K H a [.str "structure", .str n, .str rn, .ref ct, .int (b : Nat), .int (s : Nat)] ∧ SqT K H ct (cs.map V.str)
  | .lay n cs => ∃ a ct, x = .ref a ∧ SqT K H a [.str "layout", .str n, .ref ct] ∧ SqT K H ct (cs.map V.str)
theorem FvAt.tk {K : PySem.W.Frag} {H H' : Hp} {x : V} {v : Fv} (t : Tk K H H') (h : FvAt K H x v) : FvAt K H' x v := by
  cases v with
  | rel n cs r => obtain ⟨a, ct, e, h1, h2⟩ := h; exact ⟨a, ct, e, t _ _ h1, t _ _ h2⟩
  | fact n row => obtain ⟨a, ct, e, h1, h2⟩ := h; exact ⟨a, ct, e, t _ _ h1, t _ _ h2⟩
  | str n rn cs b s => obtain ⟨a, ct, e, h1, h2⟩ := h; exact ⟨a, ct, e, t _ _ h1, t _ _ h2⟩
  | lay n cs => obtain ⟨a, ct, e, h1, h2⟩ := h; exact ⟨a, ct, e, t _ _ h1, t _ _ h2⟩
/-- an item's parts by its value -/
def FvIt (K : PySem.W.Frag) (H : Hp) : It → Fv → Prop
  | .rel n c, .rel m cs r => n = m ∧ ∃ ct, c = [.ref ct, .int (r : Nat)] ∧ SqT K H ct (cs.map V.str)
  | .fact n _ row, .fact m row' => n = m ∧ row = row'
  | .str n c, .str m rn cs b s => n = m ∧ ∃ ct, c = [.str rn, .ref ct, .int (b : Nat), .int (s : Nat)] ∧ SqT K H ct (cs.map V.str)
  | .lay n v, .lay m cs => n = m ∧ ∃ ct, v = .ref ct ∧ SqT K H ct (cs.map V.str)
  | _, _ => False
theorem FvIt.tk {K : PySem.W.Frag} {H H' : Hp} {i : It} {v : Fv} (t : Tk K H H') (h : FvIt K H i v) : FvIt K H' i v := by
  cases i <;> cases v <;> try exact h
  · obtain ⟨e, ct, e2, h2⟩ := h; exact ⟨e, ct, e2, t _ _ h2⟩
  · obtain ⟨e, ct, e2, h2⟩ := h; exact ⟨e, ct, e2, t _ _ h2⟩
  · obtain ⟨e, ct, e2, h2⟩ := h; exact ⟨e, ct, e2, t _ _ h2⟩
theorem FvIt.at_ {K : PySem.W.Frag} {H : Hp} {a : Addr} {i : It} {v : Fv} (h : FvIt K H i v) (g : ItAt K H a i) : FvAt K H (.ref a) v := by
  cases i <;> cases v <;> try exact h.elim
  · obtain ⟨rfl, ct, rfl, h2⟩ := h; exact ⟨a, ct, rfl, g, h2⟩
  · obtain ⟨rfl, rfl⟩ := h; exact ⟨a, _, rfl, g.1, g.2.1⟩
  · obtain ⟨rfl, ct, rfl, h2⟩ := h; exact ⟨a, ct, rfl, g, h2⟩
  · obtain ⟨rfl, ct, rfl, h2⟩ := h; exact ⟨a, ct, rfl, g, h2⟩
theorem FvIt.ier {K : PySem.W.Frag} {H : Hp} {i j : It} {v : Fv} (e : ier i = ier j) (h : FvIt K H i v) : FvIt K H j v := by
  cases i <;> cases j <;> (try (exfalso; have h0 := congrArg (fun x => x.1) e; simp [K1.ier] at h0; done)) <;> cases v <;> try exact h.elim
  · have e1 := congrArg (fun x => x.2.1) e
    have e2 := congrArg (fun x => x.2.2.2) e
    simp only [K1.ier] at e1 e2
    subst e1 e2
    exact h
  · have e1 := congrArg (fun x => x.2.1) e
    have e2 := congrArg (fun x => x.2.2.1) e
    simp only [K1.ier] at e1 e2
    subst e1 e2
    exact h
  · have e1 := congrArg (fun x => x.2.1) e
    have e2 := congrArg (fun x => x.2.2.2) e
    simp only [K1.ier] at e1 e2
    subst e1 e2
    exact h
  · have e1 := congrArg (fun x => x.2.1) e
    have e2 := congrArg (fun x => x.2.2.2) e
    simp only [K1.ier] at e1 e2
    cases e2
    subst e1
    exact h
/-- items with values -/
def ItsV (K : PySem.W.Frag) (H : Hp) (its : Its) (vs : List Fv) : Prop := its.length = vs.length ∧ ∀ (i : Nat) (t : Addr × It) (v : Fv), its[i]? = some t → vs[i]? = some v → FvIt K H t.2 v ∧ FvOk v
def ItV (K : PySem.W.Frag) (H : Hp) (t : Addr × It) : Prop := ∃ v, FvIt K H t.2 v ∧ FvOk v
theorem ItV.tk {K : PySem.W.Frag} {H H' : Hp} {t : Addr × It} (k : Tk K H H') (h : ItV K H t) : ItV K H' t := by
  obtain ⟨v, h1, h2⟩ := h
  exact ⟨v, h1.tk k, h2⟩
theorem itsV_of {K : PySem.W.Frag} {H : Hp} : ∀ {its : Its}, (∀ t ∈ its, ItV K H t) → ∃ vs, ItsV K H its vs
  | [], _ => ⟨[], rfl, fun i t v e => by simp at e⟩
  | t :: its, h => by
    obtain ⟨v, h1, h2⟩ := h t List.mem_cons_self
    obtain ⟨vs, l, g⟩ := itsV_of (its := its) fun u m => h u (List.mem_cons_of_mem _ m)
    refine ⟨v :: vs, by rw [List.length_cons, List.length_cons, l], fun i u w e f => ?_⟩
    cases i with
    | zero =>
      cases e
      cases f
      exact ⟨h1, h2⟩
    | succ i => exact g i u w e f
/-! lengths -/
theorem strB_len4 {z : Str} (h : StrOk z) : (strB z).length ≤ 221 := strB_len h.2
theorem namesB_len {cs : List Str} (h : StrsOk cs) : (namesB cs).length ≤ 2231 := by
  have := listB_len (xs := cs.map strB) (b := 221) (fun x m => by
    obtain ⟨z, mz, e⟩ := List.mem_map.mp m
    rw [← e]
    exact strB_len4 (h.2 z mz)) (by rw [List.length_map]; have := h.1; omega)
  rw [List.length_map] at this
  have h1 := h.1
  unfold namesB
  have : cs.length * 221 ≤ 10 * 221 := Nat.mul_le_mul_right _ h1
  omega
theorem numB_len4 {n : Nat} (h : n ≤ 10000) : (numB n).length ≤ 21 := numB_20 (Nat.lt_of_le_of_lt h (by decide))
theorem fvB_len {v : Fv} (h : FvOk v) : (fvB v).length ≤ 4900 := by
  cases v with
  | rel n cs r =>
    obtain ⟨h1, h2, h3⟩ := h
    have a1 := strB_len4 h1
    have a2 := namesB_len h2
    have a3 := numB_len4 h3
    show (0 :: strB n ++ namesB cs ++ numB r).length ≤ _
    simp only [List.length_append, List.length_cons]
    omega
  | fact n row =>
    obtain ⟨h1, h2, h3⟩ := h
    have a1 := strB_len4 h1
    have a2 := rowB_len h2 h3
    show (1 :: strB n ++ rowB row).length ≤ _
    simp only [List.length_append, List.length_cons]
    omega
  | str n rn cs b s =>
    obtain ⟨h1, h2, h3, h4, h5⟩ := h
    have a1 := strB_len4 h1
    have a2 := strB_len4 h2
    have a3 := namesB_len h3
    have a4 := numB_len4 h4
    have a5 := numB_len4 h5
    show (2 :: strB n ++ strB rn ++ namesB cs ++ (numB b ++ numB s)).length ≤ _
    simp only [List.length_append, List.length_cons]
    omega
  | lay n cs =>
    obtain ⟨h1, h2⟩ := h
    have a1 := strB_len4 h1
    have a2 := namesB_len h2
    show (3 :: strB n ++ namesB cs).length ≤ _
    simp only [List.length_append, List.length_cons]
    omega
/-! changes -/
inductive Cv where
  | comes (v : Fv)
  | goes (s : Nat) (n : Str) (row : List V)
def CvOk : Cv → Prop
  | .comes v => FvOk v
  | .goes s n row => s < 4 ∧ StrOk n ∧ (∀ x ∈ row, Scal x) ∧ row.length ≤ 10
def cvB : Cv → List Int
  | .comes v => 0 :: fvB v
  | .goes s n row => 1 :: (s : Int) :: strB n ++ rowB row
def CvAt (K : PySem.W.Frag) (H : Hp) (x : V) : Cv → Prop
  | .comes v => ∃ a y, x = .ref a ∧ SqT K H a [.str "comes", y] ∧ FvAt K H y v
  | .goes s n row => ∃ a k r, x = .ref a ∧ SqT K H a [.str "goes", .ref k] ∧ SqT K H k [.int (s : Nat), .str n, .ref r] ∧ SqT K H r row
theorem CvAt.tk {K : PySem.W.Frag} {H H' : Hp} {x : V} {v : Cv} (t : Tk K H H') (h : CvAt K H x v) : CvAt K H' x v := by
  cases v with
  | comes v => obtain ⟨a, y, e, h1, h2⟩ := h; exact ⟨a, y, e, t _ _ h1, h2.tk t⟩
  | goes s n row => obtain ⟨a, k, r, e, h1, h2, h3⟩ := h; exact ⟨a, k, r, e, t _ _ h1, t _ _ h2, t _ _ h3⟩
theorem cvB_len {v : Cv} (h : CvOk v) : (cvB v).length ≤ 4950 := by
  cases v with
  | comes v =>
    have := fvB_len h
    show (0 :: fvB v).length ≤ _
    simp only [List.length_cons]
    omega
  | goes s n row =>
    obtain ⟨_, h1, h2, h3⟩ := h
    have a1 := strB_len4 h1
    have a2 := rowB_len h2 h3
    show (1 :: (s : Int) :: strB n ++ rowB row).length ≤ _
    simp only [List.length_append, List.length_cons]
    omega
end K1
namespace K1
open PySem PySem.Spec PyProof.Rows L2 Ow Tlz
def spName4 : Sp := fun vs H Q _ => ∃ p d : Addr, vs = [.ref p] ∧ Rng d H p ∧ Drw p d H Q fun x _ => ∃ z, x = .str z ∧ StrOk z
def spItem4 (K : PySem.W.Frag) : Sp := fun vs H Q _ => ∃ p d : Addr, vs = [.ref p] ∧ Rng d H p ∧
  Drw p d H Q fun x H' => ∃ (a : Addr) (i : It), x = .ref a ∧ ItG K H' a i ∧ ItV K H' (a, i)
def spSome4 (K : PySem.W.Frag) : Sp := fun vs H Q _ => ∃ (p d : Addr) (m : Nat), vs = [.ref p, .int (m : Int)] ∧ m ≤ 30 ∧ Rng d H p ∧
  Drw p d H Q fun x H' => ∃ (q l o : Addr) (its : Its), x = .ref q ∧ H' q = some (.lst [.ref l, .ref o]) ∧ H' l = some (.lst (irf its)) ∧ H' o = some (.lst (irf (plcAll its))) ∧ ItsG K H' its ∧ (∀ t ∈ its, ItV K H' t) ∧ its.length ≤ m ∧ l ≠ o ∧ l ≠ p ∧ o ≠ p ∧ l ≠ d ∧ o ≠ d
theorem take_names {ws : List Str} (h : StrsOk ws) (z : Int) (z0 : 0 ≤ z) : ∃ cs : List Str, cutV (ws.map V.str) none (some z) = cs.map V.str ∧ StrsOk cs := by
  refine ⟨ws.take z.toNat, ?_, ?_, fun w m => h.2 w (List.mem_of_mem_take m)⟩
  · rw [cut_take _ z0, List.map_take]
  · rw [List.length_take]
    have := h.1
    omega
instance (z : Str) : Decidable (StrOk z) := inferInstanceAs (Decidable (Pr z ∧ z.length ≤ 200))
instance (zs : List Str) : Decidable (StrsOk zs) := inferInstanceAs (Decidable (zs.length ≤ 10 ∧ ∀ z ∈ zs, StrOk z))
section
variable {P : Program} {w : World} {K : PySem.W.Frag} {mg : Str → Option Value} {base : Heap}
theorem ok_name4 {f : Addr} {fd : FuncData} (F : Fun K "_law_name" "_law_name" s_law_name f fd)
    (D_law_next : Kn P w K mg base 3 "_law_next" ["state", "limit"] spNext) :
    FnOk P w K mg base CX0 4 f fd ["state"] spName4 := by
  refine F.ok sc_law_name (fun vs H Q E h => ?_) (fun cdv A outer s H vs Q E hr h => ?_)
  · obtain ⟨p, d, rfl, _⟩ := h
    rfl
  · obtain ⟨p, d, rfl, rg, q⟩ := h
    refine ⟨_, (pss_one (ps_ret (pe_ix ix_list (pe_lst (pa_cons pe_str (pa_cons pe_str (pa_cons pe_str (pa_cons pe_str (pa_cons pe_str (pa_cons pe_str pa_nil))))))) (pe_kn D_law_next hr (pa_cons (pv 0) (pa_cons pe_int pa_nil))) (fun _ _ => rfl)))), ?_⟩
    refine ⟨by decide, fun o no => ⟨_, rfl, p, d, 6, rfl, by decide, rg.same (Same.new no), ?_⟩⟩
    rintro x H' ⟨v, rfl, v0, v1⟩ gw rg'
    obtain ⟨y, hy, my⟩ := at_in (xs := [V.str "a", .str "b", .str "a2", .str "long_name_12", .str "s_", .str "r"]) v0 v1
    refine ⟨o, _, v, y, rfl, rfl, SqL.of (gw.keep upd_same (rg.free no).1), hy, q _ _ ?_ (fun b u nb e => gw b u nb (Gw.new no b u nb e)) rg'⟩
    simp only [List.mem_cons, List.not_mem_nil, or_false] at my
    rcases my with rfl | rfl | rfl | rfl | rfl | rfl <;> exact ⟨_, rfl, by decide +kernel⟩
theorem ok_item4 {f : Addr} {fd : FuncData} (F : Fun K "_law_item" "_law_item" s_law_item f fd) (T : Bl mg)
    (D_law_next : Kn P w K mg base 3 "_law_next" ["state", "limit"] spNext)
    (D_law_name : Kn P w K mg base 4 "_law_name" ["state"] spName4)
    (D_law_row : Kn P w K mg base 6 "_law_row" ["state", "width"] spRow) :
    FnOk P w K mg base CX0 7 f fd ["state"] (spItem4 K) := by
  refine F.ok sc_law_item (fun vs H Q E h => ?_) (fun cdv A outer s0 H vs Q E hr h => ?_)
  · obtain ⟨p, d, rfl, _⟩ := h
    rfl
  · obtain ⟨p, d, rfl, rg, q⟩ := h
    refine ⟨_, (pss_cons (ps_set (i := 1) sc_law_item.nd rfl (.inl rfl) (pe_kn D_law_next hr (pa_cons (pv 0) (pa_cons pe_int pa_nil))))
      (pss_cons (ps_set (i := 2) sc_law_item.nd rfl (.inl rfl) (pe_kn D_law_name hr (pa_cons (pv 0) pa_nil)))
      (pss_cons (ps_set (i := 3) sc_law_item.nd rfl (.inl rfl) (pe_callTy call_tuple_of (by rfl) T.tuple (by decide +kernel) (pa_cons (pe_slice sl_list (pe_lst (pa_cons pe_str (pa_cons pe_str (pa_cons pe_str (pa_cons pe_str pa_nil))))) po_none (po_some (pe_op op_add pe_int (pe_kn D_law_next hr (pa_cons (pv 0) (pa_cons pe_int pa_nil)))))) pa_nil)))
      (pss_cons (ps_if (pt_cmpR op_lt (pv 1) pe_int (nomark _)) (pss_one (ps_ret (pe_tup (pa_cons pe_str (pa_cons (pv 2) (pa_cons (pv 3) (pa_cons (pe_op op_add pe_int (pe_kn D_law_next hr (pa_cons (pv 0) (pa_cons pe_int pa_nil)))) pa_nil))))))) pss_nil)
      (pss_cons (ps_if (pt_cmpR op_lt (pv 1) pe_int (nomark _)) (pss_one (ps_ret (pe_tup (pa_cons pe_str (pa_cons (pv 2) (pa_cons (pe_kn D_law_row hr (pa_cons (pv 0) (pa_cons (pe_op op_add pe_int (pe_kn D_law_next hr (pa_cons (pv 0) (pa_cons pe_int pa_nil)))) pa_nil))) pa_nil)))))) pss_nil)
      (pss_cons (ps_if (pt_cmpR op_lt (pv 1) pe_int (nomark _)) (pss_one (ps_ret (pe_tup (pa_cons pe_str (pa_cons (pv 2) (pa_cons (pe_kn D_law_name hr (pa_cons (pv 0) pa_nil)) (pa_cons (pv 3) (pa_cons (pe_op op_add pe_int (pe_kn D_law_next hr (pa_cons (pv 0) (pa_cons pe_int pa_nil)))) (pa_cons (pe_op op_add pe_int (pe_kn D_law_next hr (pa_cons (pv 0) (pa_cons pe_int pa_nil)))) pa_nil))))))))) pss_nil)
      (pss_one (ps_ret (pe_tup (pa_cons pe_str (pa_cons (pv 2) (pa_cons (pe_callTy call_tuple_of (by rfl) T.tuple (by decide +kernel) (pa_cons (pe_slice sl_list (pe_lst (pa_cons pe_str (pa_cons pe_str (pa_cons pe_str (pa_cons pe_str pa_nil))))) po_none (po_some (pe_kn D_law_next hr (pa_cons (pv 0) (pa_cons pe_int pa_nil))))) pa_nil)) pa_nil)))))))))))), ?_⟩
    -- pick, name
    refine ⟨_, rfl, p, d, 9, rfl, by decide, rg, ?_⟩
    rintro x1 H1 ⟨b, rfl, b0, b1⟩ gw1 rg1
    refine ⟨_, rfl, p, d, rfl, rg1, ?_⟩
    rintro x2 H2 ⟨n, rfl, on⟩ gw2 rg2
    have pn := on.1
    have gw12 : Gw p H H2 := gw1.trans gw2
    -- columns
    refine ⟨sz 4, fun o no => ?_⟩
    refine ⟨_, rfl, p, d, 4, rfl, by decide, rg2.same (Same.new no), ?_⟩
    rintro x3 H3 ⟨c, rfl, c0, c1⟩ gw3 rg3
    have eo := gw3.keep upd_same (rg2.free no).1
    refine ⟨1, c, rfl, rfl, _, rfl, o, _, rfl, SqL.of eo, fun o2 no2 => ?_⟩
    refine ⟨o2, _, rfl, .inl ⟨SqL.of upd_same, fun t nt => ?_⟩⟩
    have gw3' : Gw p H H3 := (gw12.trans (Gw.new no)).trans gw3
    have gw4 : ∀ u, Gw p H (upd _ t u) := fun u => (gw3'.trans (Gw.new no2)).trans (Gw.new nt)
    have rg4 : ∀ u, Rng d (upd _ t u) p := fun u => (rg3.same (Same.new no2)).same (Same.new nt)
    have hcs := take_strs (ws := ["x", "y", "column_of_12", "z1"]) (by decide +kernel) (1 + c) (by omega)
    obtain ⟨cs, ecs, ocs⟩ := take_names (ws := ["x", "y", "column_of_12", "z1"]) (by decide +kernel) (1 + c) (by omega)
    have hcl := take_len (xs := (["x", "y", "column_of_12", "z1"] : List Str).map V.str) (1 + c) (by omega) (by decide)
    have ht : ∀ {H9 : Hp}, Gw p (upd _ t (.tup (cutV ((["x", "y", "column_of_12", "z1"] : List Str).map V.str) none (some (1 + c))))) H9 → SqT K H9 t (cutV ((["x", "y", "column_of_12", "z1"] : List Str).map V.str) none (some (1 + c))) := fun {H9} g => Rng.tk (rg4 _) g _ _ (SqT.of upd_same)
    -- relation
    refine ⟨_, rfl, _, _, rfl, rfl, _, rfl, ite2 (fun e => ?_) (fun e => ?_)⟩
    · refine ⟨_, rfl, _, rfl, _, rfl, p, d, 40, rfl, by decide, rg4 _, ?_⟩
      rintro x5 H5 ⟨z, rfl, z0, z1⟩ gw5 rg5
      refine ⟨1, z, rfl, rfl, sz 4, fun u nu => q _ _ ⟨u, .rel n _, rfl, ⟨SqT.of upd_same, pn, (CD.strs (Tk.same (Same.new nu) _ _ (ht gw5)) hcs hcl (CD.int CD.nil)), rfl⟩, .rel n cs (1 + z).toNat, ⟨rfl, t, by rw [Int.toNat_of_nonneg (by omega)], by rw [← ecs]; exact Tk.same (Same.new nu) _ _ (ht gw5)⟩, on, ocs, by omega⟩ (((gw4 _).trans gw5).trans (Gw.new nu)) (rg5.same (Same.new nu))⟩
    -- fact
    refine ⟨_, rfl, _, _, rfl, rfl, _, rfl, ite2 (fun e => ?_) (fun e => ?_)⟩
    · refine ⟨_, rfl, _, rfl, _, rfl, p, d, 3, rfl, by decide, rg4 _, ?_⟩
      rintro x5 H5 ⟨z, rfl, z0, z1⟩ gw5 rg5
      have ez : (1 + z : Int) = (((1 + z).toNat : Nat) : Int) := by omega
      refine ⟨1, z, rfl, rfl, p, d, (1 + z).toNat, congrArg (fun t => [V.ref p, V.int t]) ez, by omega, rg5, ?_⟩
      rintro x6 H6 ⟨r, xs, rfl, er, lx, sx⟩ gw6 rg6
      refine ⟨sz 3, fun u nu => q _ _ ⟨u, .fact n r xs, rfl, ⟨⟨SqT.of upd_same, Tk.same (Same.new nu) _ _ (SqT.of er), sx, by omega⟩, pn, CD.nil, rfl⟩, .fact n xs, ⟨rfl, rfl⟩, on, sx, by omega⟩ ((((gw4 _).trans gw5).trans gw6).trans (Gw.new nu)) (rg6.same (Same.new nu))⟩
    -- structure
    refine ⟨_, rfl, _, _, rfl, rfl, _, rfl, ite2 (fun e => ?_) (fun e => ?_)⟩
    · refine ⟨_, rfl, _, rfl, p, d, rfl, rg4 _, ?_⟩
      rintro x5 H5 ⟨m, rfl, om⟩ gw5 rg5
      have pm := om.1
      refine ⟨_, rfl, _, rfl, p, d, 16, rfl, by decide, rg5, ?_⟩
      rintro x6 H6 ⟨z, rfl, z0, z1⟩ gw6 rg6
      refine ⟨1, z, rfl, rfl, _, rfl, p, d, 8, rfl, by decide, rg6, ?_⟩
      rintro x7 H7 ⟨y, rfl, y0, y1⟩ gw7 rg7
      refine ⟨1, y, rfl, rfl, sz 6, fun u nu => q _ _ ⟨u, .str n _, rfl, ⟨SqT.of upd_same, pn, (CD.str pm (CD.strs (Tk.same (Same.new nu) _ _ (ht ((gw5.trans gw6).trans gw7))) hcs hcl (CD.int (CD.int CD.nil)))), rfl⟩, .str n m cs (1 + z).toNat (1 + y).toNat, ⟨rfl, t, by rw [Int.toNat_of_nonneg (show 0 ≤ 1 + z by omega), Int.toNat_of_nonneg (show 0 ≤ 1 + y by omega)], by rw [← ecs]; exact Tk.same (Same.new nu) _ _ (ht ((gw5.trans gw6).trans gw7))⟩, on, om, ocs, by omega, by omega⟩ (((((gw4 _).trans gw5).trans gw6).trans gw7).trans (Gw.new nu)) (rg7.same (Same.new nu))⟩
    -- layout
    · refine ⟨_, rfl, sz 4, fun o5 no5 => ?_⟩
      refine ⟨_, rfl, p, d, 5, rfl, by decide, (rg4 _).same (Same.new no5), ?_⟩
      rintro x6 H6 ⟨z, rfl, z0, z1⟩ gw6 rg6
      refine ⟨_, rfl, o5, _, rfl, SqL.of (gw6.keep upd_same ((rg4 _).free no5).1), fun o7 no7 => ?_⟩
      refine ⟨o7, _, rfl, .inl ⟨SqL.of upd_same, fun t8 nt8 => ?_⟩⟩
      obtain ⟨ds, eds, ods⟩ := take_names (ws := ["s1", "s2", "a", "b"]) (by decide +kernel) z z0
      refine ⟨sz 3, fun u nu => q _ _ ⟨u, .lay n _, rfl, ⟨SqT.of upd_same, pn, (CD.strs (Tk.same (Same.new nu) _ _ (SqT.of upd_same)) (take_strs (ws := ["s1", "s2", "a", "b"]) (by decide +kernel) z z0) (take_len z z0 (by decide)) CD.nil), rfl⟩, .lay n ds, ⟨rfl, t8, rfl, by rw [← eds]; exact Tk.same (Same.new nu) _ _ (SqT.of upd_same)⟩, on, ods⟩
        ((((((gw4 _).trans (Gw.new no5)).trans gw6).trans (Gw.new no7)).trans (Gw.new nt8)).trans (Gw.new nu)) (((rg6.same (Same.new no7)).same (Same.new nt8)).same (Same.new nu))⟩
theorem ok_some4 {f : Addr} {fd : FuncData} (F : Fun K "_law_some_items" "_law_some_items" s_law_some_items f fd) (T : Bl mg)
    (D_law_next : Kn P w K mg base 3 "_law_next" ["state", "limit"] spNext)
    (D_law_item : Kn P w K mg base 7 "_law_item" ["state"] (spItem4 K))
    (D_law_placed : Kn P w K mg base 4 "_law_placed" ["items", "item"] (spPlaced K)) :
    FnOk P w K mg base CX0 8 f fd ["state", "most"] (spSome4 K) := by
  refine F.ok sc_law_some_items (fun vs H Q E h => ?_) (fun cdv A outer s0 H vs Q E hr h => ?_)
  · obtain ⟨p, d, m, rfl, _⟩ := h
    rfl
  · obtain ⟨p, d, m, rfl, lm, rg, q⟩ := h
    refine ⟨_, (pss_cons (ps_setLc (i := 2) (own := [("k", 5)]) (g := gName 5) rfl sc_law_some_items.nd rfl rfl (sw_true rfl rfl rfl (by decide +kernel)) (pi_range1 (by rfl) T.range (pa_cons (pe_kn D_law_next hr (pa_cons (pv 0) (pa_cons (pe_op op_add (pv 1) pe_int) pa_nil))) pa_nil)) (blkOk_by (own := [("k", 5)]) (N := N_law_some_items) (sc := defScope s_law_some_items) (by decide +kernel)) (fun _ _ _ _ _ => pg_name (i := 5) sc_law_some_items.nd rfl (Or.inl rfl)) (fun _ _ _ _ _ => pts_nil) (fun _ _ _ _ _ => (pe_kn D_law_item hr (pa_cons (pv 0) pa_nil))))
      (pss_cons (ps_set (i := 3) sc_law_some_items.nd rfl (.inl rfl) (pe_lst pa_nil))
      (pss_cons (ps_for PassesOwn.never rfl (pi_list (pv 2)) (pg_name (i := 4) sc_law_some_items.nd rfl (.inl rfl)) (pss_one (ps_set (i := 3) sc_law_some_items.nd rfl (.inl rfl) (pe_kn D_law_placed hr (pa_cons (pv 3) (pa_cons (pv 4) pa_nil))))))
      (pss_one (ps_ret (pe_lst (pa_cons (pv 2) (pa_cons (pv 3) pa_nil)))))))), ?_⟩
    refine ⟨_, rfl, _, rfl, _, _, rfl, rfl, p, d, (m : Int) + 1, rfl, by omega, rg, ?_⟩
    rintro x1 H1 ⟨v, rfl, v0, v1⟩ gw1 rg1
    refine ⟨v, rfl, by omega, by omega, fun D nD => lc_range (lo := 0) (n := v.toNat) (fun j H4 => ∃ its : Its, H4 D = some (.lst (irf its)) ∧ its.length = j ∧ ItsG K H4 its ∧ Gw p H H4 ∧ Rng d H4 p ∧ ∀ t ∈ its, ItV K H4 t)
      ⟨[], upd_same, rfl, (fun _ m => by cases m), gw1.trans (Gw.new nD), rg1.same (Same.new nD), fun _ m => nomatch m⟩ (fun j H4 hj hP => ?_) (fun H4 hP => ?_)⟩
    · obtain ⟨its, eD, li, ig, gw4, rg4, iv⟩ := hP
      refine ⟨rfl, ?_⟩
      refine ⟨_, rfl, p, d, rfl, rg4, ?_⟩
      rintro x H5 ⟨a, i, rfl, hi, vi⟩ gw5 rg5
      have dn := rg1.free nD
      have eD5 := gw5.keep eD dn.1
      have tD : Tk K H5 (upd H5 D (.lst (irf its ++ [.ref a]))) := Tk.put eD5
      refine ⟨irf its, eD5, by rw [irf_len]; exact small (m := 1000) (by omega) (by decide), its ++ [(a, i)], by rw [upd_same, irf_app]; rfl, by rw [List.length_append, li]; rfl, ((ig.tk (Rng.tk rg4 gw5)).tk tD).app (ItsG.one (t := (a, i)) (hi.tk tD)), ?_, rg5.upd dn, fun u m => ?_⟩
      · exact Gw.over (gw4.trans gw5) (gw1.free nD dn.1)
      · rcases List.mem_append.mp m with m | m
        · exact ((iv u m).tk (Rng.tk rg4 gw5)).tk tD
        · rw [List.mem_singleton.mp m]
          exact ItV.tk (t := (a, i)) tD vi
    · obtain ⟨its, eD, li, ig, gw4, rg4, iv⟩ := hP
      have dn := rg1.free nD
      refine ⟨sz 0, fun o no => ?_⟩
      have s5 := Same.new (o := .lst []) no
      have e5 := upd_same (H := H4) (a := o) (o := .lst [])
      have noD : o ≠ D := fun z => by rw [z, eD] at no; cases no
      have nop := rg4.free no
      generalize (upd H4 o (.lst [])) = H5 at *
      refine ⟨_, rfl, D, rfl, ⟨_, SqL.of (s5 _ _ eD)⟩, for_list (K := K) (a := D) (xs := irf its) (fun j σ H6 => ∃ (o : Addr) (y4 : Option V), σ = [some (.ref p), some (.int (m : Int)), some (.ref D), some (.ref o), y4, none] ∧ Same H4 H6 ∧ o ≠ D ∧ (o ≠ p ∧ o ≠ d) ∧
          H6 o = some (.lst (irf (plcAll (its.take j)))))
        ⟨o, none, rfl, s5, noD, nop, e5⟩ (fun j σ H6 _ hP => ?_) (fun j y σ H6 hy hP => ?_) (fun σ H6 hP => ?_)⟩
      · obtain ⟨_, _, _, s6, _⟩ := hP
        exact SqL.of (s6 _ _ eD)
      · obtain ⟨o, y4, rfl, s6, no1, no2, eo⟩ := hP
        obtain ⟨t, et, rfl⟩ := irf_get hy
        have jl : j < its.length := (List.getElem?_eq_some_iff.mp et).1
        have ig6 := ig.same s6
        have sub : ItsG K H6 (its.take j) := fun u m => ig6 u (List.mem_of_mem_take m)
        obtain ⟨_, _, ln, mm⟩ := plcAll_ok (its.take j) sub.sc
        refine ⟨_, rfl, _, rfl, o, t.1, t.2, plcAll (its.take j), rfl, SqL.of eo, (fun u m => sub u (mm u m)), ig6 t (List.mem_of_getElem? et), ?_, fun p7 H7 s7 n7 e7 => ?_⟩
        · rw [List.length_take] at ln
          omega
        · refine ⟨p7, _, rfl, s6.trans s7, (fun z => by rw [z, s6 _ _ eD] at n7; cases n7), (rg4.same s6).free n7, ?_⟩
          rw [take_snoc' et, plcAll_snoc]
          exact e7
      · obtain ⟨o, y4, rfl, s6, no1, no2, eo⟩ := hP
        rw [irf_len, List.take_length] at eo
        refine ⟨_, rfl, _, rfl, sz 2, fun u nu => q _ _ ⟨u, D, o, its, rfl, upd_same, Same.new nu _ _ (s6 _ _ eD), Same.new nu _ _ eo, (ig.same s6).same (Same.new nu), (fun t m => (iv t m).tk (Tk.same (s6.trans (Same.new nu)))), by omega, no1.symm, dn.1, no2.1, dn.2, no2.2⟩ ?_ ((rg4.same s6).same (Same.new nu))⟩
        exact (gw4.trans (Gw.same s6)).trans (Gw.new nu)
end
end K1
namespace K1
open PySem PySem.Spec PyProof.Rows L2 Ow Tlz
/-! two rows of items that tell the same values -/
def Tw (K : PySem.W.Frag) (H : Hp) (t u : Addr × It) : Prop := ∃ v, FvOk v ∧ FvIt K H t.2 v ∧ FvIt K H u.2 v
inductive Twl (K : PySem.W.Frag) (H : Hp) : Its → Its → Prop
  | nil : Twl K H [] []
  | cons {t u : Addr × It} {ts us : Its} : Tw K H t u → Twl K H ts us → Twl K H (t :: ts) (u :: us)
section
variable {K : PySem.W.Frag} {H : Hp}
theorem Tw.tk {H' : Hp} {t u : Addr × It} (k : Tk K H H') (h : Tw K H t u) : Tw K H' t u := by
  obtain ⟨v, o, a, b⟩ := h
  exact ⟨v, o, a.tk k, b.tk k⟩
theorem Tw.symm {t u : Addr × It} (h : Tw K H t u) : Tw K H u t := by
  obtain ⟨v, o, a, b⟩ := h
  exact ⟨v, o, b, a⟩
theorem Twl.tk {H' : Hp} {ts us : Its} (k : Tk K H H') (h : Twl K H ts us) : Twl K H' ts us := by
  induction h with
  | nil => exact .nil
  | cons a _ ih => exact .cons (a.tk k) ih
theorem Twl.symm {ts us : Its} (h : Twl K H ts us) : Twl K H us ts := by
  induction h with
  | nil => exact .nil
  | cons a _ ih => exact .cons a.symm ih
theorem Twl.len {ts us : Its} (h : Twl K H ts us) : ts.length = us.length := by
  induction h with
  | nil => rfl
  | cons _ _ ih => rw [List.length_cons, List.length_cons, ih]
theorem Twl.mem {ts us : Its} (h : Twl K H ts us) {u : Addr × It} (m : u ∈ us) : ∃ t ∈ ts, Tw K H t u := by
  induction h with
  | nil => cases m
  | cons a _ ih =>
    rcases List.mem_cons.mp m with z | m
    · rw [z]; exact ⟨_, List.mem_cons_self, a⟩
    · obtain ⟨t, mt, g⟩ := ih m
      exact ⟨t, List.mem_cons_of_mem _ mt, g⟩
theorem Twl.of : ∀ {ts us : Its} {fs : List Fv}, ItsV K H us fs → ts.length = us.length → (∀ (i : Nat) (t : Addr × It) (v : Fv), ts[i]? = some t → fs[i]? = some v → FvIt K H t.2 v) → Twl K H ts us
  | [], [], _, _, _, _ => .nil
  | [], _ :: _, _, _, l, _ => by cases l
  | _ :: _, [], _, _, l, _ => by cases l
  | t :: ts, u :: us, fs, ⟨l2, g⟩, l, h => by
    cases fs with
    | nil => cases l2
    | cons v fs =>
      obtain ⟨a, b⟩ := g 0 u v rfl rfl
      exact .cons ⟨v, b, h 0 t v rfl rfl, a⟩ (Twl.of (fs := fs) ⟨Nat.succ.inj l2, fun i t' v' e f => g (i + 1) t' v' e f⟩ (Nat.succ.inj l) fun i t' v' e f => h (i + 1) t' v' e f)
theorem FvIt.key {i j : It} {v : Fv} (h : FvIt K H i v) (g : FvIt K H j v) : (K1.ier i).1 = (K1.ier j).1 ∧ (K1.ier i).2.1 = (K1.ier j).2.1 ∧ (K1.ier i).2.2.1 = (K1.ier j).2.2.1 := by
  cases i <;> cases v <;> (try exact h.elim) <;> cases j <;> (try exact g.elim)
  · exact ⟨rfl, h.1.trans g.1.symm, rfl⟩
  · exact ⟨rfl, h.1.trans g.1.symm, h.2.trans g.2.symm⟩
  · exact ⟨rfl, h.1.trans g.1.symm, rfl⟩
  · exact ⟨rfl, h.1.trans g.1.symm, rfl⟩
theorem Tw.ord {t u t' u' : Addr × It} (h : Tw K H t u) (g : Tw K H t' u') : tOrd (te t) (te t') = tOrd (te u) (te u') := by
  obtain ⟨v, _, a, b⟩ := h
  obtain ⟨v', _, a', b'⟩ := g
  obtain ⟨e1, e2, e3⟩ := a.key b
  obtain ⟨f1, f2, f3⟩ := a'.key b'
  unfold tOrd te
  rw [e1, e2, e3, f1, f2, f3]
theorem Twl.filter {P Q : Addr × It → Bool} {ts us : Its} (h : Twl K H ts us) (e : ∀ t u, Tw K H t u → P t = Q u) : Twl K H (ts.filter P) (us.filter Q) := by
  induction h with
  | nil => exact .nil
  | cons a _ ih =>
    rw [List.filter_cons, List.filter_cons, e _ _ a]
    split
    · exact .cons a ih
    · exact ih
theorem Twl.count {P Q : Addr × It → Bool} {ts us : Its} (h : Twl K H ts us) (e : ∀ t u, Tw K H t u → P t = Q u) : ts.countP P = us.countP Q := by
  induction h with
  | nil => rfl
  | cons a _ ih => rw [List.countP_cons, List.countP_cons, e _ _ a, ih]
theorem Twl.take {ts us : Its} (h : Twl K H ts us) : ∀ n, Twl K H (ts.take n) (us.take n) := by
  induction h with
  | nil => intro n; rw [List.take_nil]; exact .nil
  | cons a _ ih =>
    intro n
    cases n with
    | zero => exact .nil
    | succ n => exact .cons a (ih n)
theorem Twl.drop {ts us : Its} (h : Twl K H ts us) : ∀ n, Twl K H (ts.drop n) (us.drop n) := by
  induction h with
  | nil => intro n; rw [List.drop_nil]; exact .nil
  | cons a b ih =>
    intro n
    cases n with
    | zero => exact .cons a b
    | succ n => exact ih n
theorem Twl.app {ts us ts' us' : Its} (h : Twl K H ts us) (g : Twl K H ts' us') : Twl K H (ts ++ ts') (us ++ us') := by
  induction h with
  | nil => exact g
  | cons a _ ih => exact .cons a ih
theorem Twl.plc {ts us : Its} {t u : Addr × It} (h : Twl K H ts us) (g : Tw K H t u) : Twl K H (plc ts t) (plc us u) := by
  unfold K1.plc
  rw [h.count (P := fun x => decide (tOrd (te x) (te t) < 0)) (Q := fun x => decide (tOrd (te x) (te u) < 0)) fun a b w => by rw [w.ord g]]
  have f := h.filter (P := fun x => decide (tOrd (te x) (te t) ≠ 0)) (Q := fun x => decide (tOrd (te x) (te u) ≠ 0)) fun a b w => by rw [w.ord g]
  exact ((f.take _).app (.cons g .nil)).app (f.drop _)
theorem Twl.foldl {ts us : Its} (h : Twl K H ts us) : ∀ {os os' : Its}, Twl K H os os' → Twl K H (ts.foldl K1.plc os) (us.foldl K1.plc os') := by
  induction h with
  | nil => exact fun g => g
  | cons a _ ih => exact fun g => ih (g.plc a)
theorem Twl.plcAll {ts us : Its} (h : Twl K H ts us) : Twl K H (K1.plcAll ts) (K1.plcAll us) := h.foldl .nil
theorem Twl.te : ∀ {is ts us : Its}, is.map te = ts.map te → Twl K H ts us → Twl K H is us
  | [], _, _, e, .nil => .nil
  | _ :: _, _, _, e, .nil => by cases e
  | [], _, _, e, .cons _ _ => by cases e
  | i :: is, _, _, e, .cons ⟨v, o, a, b⟩ h => by
    rw [List.map_cons, List.map_cons] at e
    exact .cons ⟨v, o, a.ier (List.cons.inj e).1.symm, b⟩ (Twl.te (List.cons.inj e).2 h)
/-! the data of an item by its value -/
def fvD : Fv → List PyData
  | .rel _ cs r => [.tuple (cs.map PyData.str), .int (r : Nat)]
  | .fact _ _ => []
  | .str _ rn cs b s => [.str rn, .tuple (cs.map PyData.str), .int (b : Nat), .int (s : Nat)]
  | .lay _ cs => [.tuple (cs.map PyData.str)]
theorem strD : ∀ cs : List Str, DpAll K H (cs.map V.str) (cs.map PyData.str)
  | [] => .nil
  | c :: cs => .cons (.str c) (strD cs)
theorem FvIt.dp {i : It} {v : Fv} (h : FvIt K H i v) : DpAll K H (cnt i) (fvD v) := by
  cases i <;> cases v <;> (try exact h.elim)
  · obtain ⟨_, ct, rfl, h2⟩ := h
    exact .cons (.tup h2 (strD _)) (.cons (.int _) .nil)
  · exact .nil
  · obtain ⟨_, ct, rfl, h2⟩ := h
    exact .cons (.str _) (.cons (.tup h2 (strD _)) (.cons (.int _) (.cons (.int _) .nil)))
  · obtain ⟨_, ct, rfl, h2⟩ := h
    exact .cons (.tup h2 (strD _)) .nil
theorem strs_gd {cs : List Str} (h : StrsOk cs) : Gd 1 (.tuple (cs.map PyData.str)) := Gd.tup (by rw [List.length_map]; have := h.1; omega) fun d m => by
  obtain ⟨z, mz, rfl⟩ := List.mem_map.mp m
  exact Gd.str (h.2 z mz).1
theorem fvD_gd {v : Fv} (o : FvOk v) : (∀ d ∈ fvD v, Gd 1 d) ∧ (fvD v).length ≤ 10 := by
  cases v with
  | rel n cs r =>
    refine ⟨fun d m => ?_, by show 2 ≤ 10; decide⟩
    simp only [fvD, List.mem_cons, List.not_mem_nil, or_false] at m
    rcases m with z | z <;> rw [z]
    · exact strs_gd o.2.1
    · exact (Gd.int _).up (by omega)
  | fact n row => exact ⟨fun d m => (by cases m), Nat.zero_le _⟩
  | str n rn cs b s =>
    refine ⟨fun d m => ?_, by show 4 ≤ 10; decide⟩
    simp only [fvD, List.mem_cons, List.not_mem_nil, or_false] at m
    rcases m with z | z | z | z <;> rw [z]
    · exact (Gd.str o.2.1.1).up (by omega)
    · exact strs_gd o.2.2.1
    · exact (Gd.int _).up (by omega)
    · exact (Gd.int _).up (by omega)
  | lay n cs =>
    refine ⟨fun d m => ?_, by show 1 ≤ 10; decide⟩
    simp only [fvD, List.mem_cons, List.not_mem_nil, or_false] at m
    rw [m]
    exact strs_gd o.2
theorem tw_data {a b : Addr} {i j : It} {v : Fv} (h : ItAt K H a i) (g : ItAt K H b j) (o : FvOk v) (hi : FvIt K H i v) (hj : FvIt K H j v) : ∃ d, Dp K H (.ref a) d ∧ Dp K H (.ref b) d ∧ Gd 2 d := by
  have pw : ∀ w : String, (w = "relation" ∨ w = "fact" ∨ w = "structure" ∨ w = "layout") → Pr (PySem.Str.ofString w) := fun w hw => by
    rcases hw with rfl | rfl | rfl | rfl <;> decide +kernel
  have d1 := hi.dp
  have d2 := hj.dp
  obtain ⟨gd, gl⟩ := fvD_gd o
  have two : ∀ {w n : Str} {ds : List PyData}, Pr w → Pr n → (∀ d ∈ ds, Gd 1 d) → ds.length ≤ 10 → Gd 2 (.tuple (.str w :: .str n :: ds)) := fun {w n ds} p1 p2 h l => by
    refine Gd.tup (k := 1) (by rw [List.length_cons, List.length_cons]; omega) fun d m => ?_
    rcases List.mem_cons.mp m with z | m
    · rw [z]; exact (Gd.str p1).up (by omega)
    · rcases List.mem_cons.mp m with z | m
      · rw [z]; exact (Gd.str p2).up (by omega)
      · exact h d m
  cases v with
  | rel n cs r =>
    cases i <;> (try exact hi.elim)
    cases j <;> (try exact hj.elim)
    obtain ⟨rfl, _⟩ := hi
    obtain ⟨rfl, _⟩ := hj
    exact ⟨_, .tup h (.cons (.str _) (.cons (.str _) d1)), .tup g (.cons (.str _) (.cons (.str _) d2)), two (pw "relation" (.inl rfl)) o.1.1 gd gl⟩
  | str n rn cs b s =>
    cases i <;> (try exact hi.elim)
    cases j <;> (try exact hj.elim)
    obtain ⟨rfl, _⟩ := hi
    obtain ⟨rfl, _⟩ := hj
    exact ⟨_, .tup h (.cons (.str _) (.cons (.str _) d1)), .tup g (.cons (.str _) (.cons (.str _) d2)), two (pw "structure" (.inr (.inr (.inl rfl)))) o.1.1 gd gl⟩
  | lay n cs =>
    cases i <;> (try exact hi.elim)
    cases j <;> (try exact hj.elim)
    obtain ⟨rfl, _⟩ := hi
    obtain ⟨rfl, _⟩ := hj
    exact ⟨_, .tup h (.cons (.str _) (.cons (.str _) d1)), .tup g (.cons (.str _) (.cons (.str _) d2)), two (pw "layout" (.inr (.inr (.inr rfl)))) o.1.1 gd gl⟩
  | fact n row =>
    cases i <;> (try exact hi.elim)
    cases j <;> (try exact hj.elim)
    obtain ⟨rfl, rfl⟩ := hi
    obtain ⟨rfl, rfl⟩ := hj
    obtain ⟨h1, h2, h3, h4⟩ := h
    obtain ⟨g1, g2, _, _⟩ := g
    refine ⟨.tuple [.str "fact", .str _, rowD _], .tup h1 (.cons (.str _) (.cons (.str _) (.cons (.tup h2 (sc_dp h3)) .nil))), .tup g1 (.cons (.str _) (.cons (.str _) (.cons (.tup g2 (sc_dp h3)) .nil))), ?_⟩
    refine Gd.tup (by show 3 ≤ 1000; decide) fun d m => ?_
    simp only [List.mem_cons, List.not_mem_nil, or_false] at m
    rcases m with z | z | z
    · rw [z]; exact (Gd.str (pw "fact" (.inr (.inl rfl)))).up (by omega)
    · rw [z]; exact (Gd.str o.1.1).up (by omega)
    · rw [z]; exact Gd.row h3 (by omega)
theorem Twl.data {ts us : Its} (h : Twl K H ts us) : ItsG K H ts → ItsG K H us → ∃ ds, DpAll K H (irf ts) ds ∧ DpAll K H (irf us) ds ∧ ∀ d ∈ ds, Gd 2 d := by
  induction h with
  | nil => exact fun _ _ => ⟨[], .nil, .nil, fun _ m => nomatch m⟩
  | @cons t u ts us a _ ih =>
    intro g1 g2
    obtain ⟨ds, a1, a2, a3⟩ := ih (fun x m => g1 x (List.mem_cons_of_mem _ m)) (fun x m => g2 x (List.mem_cons_of_mem _ m))
    obtain ⟨v, o, b1, b2⟩ := a
    obtain ⟨d, p, q, r⟩ := tw_data (g1 t List.mem_cons_self).at_ (g2 u List.mem_cons_self).at_ o b1 b2
    refine ⟨d :: ds, .cons p a1, .cons q a2, fun x m => ?_⟩
    rcases List.mem_cons.mp m with z | m
    · rw [z]; exact r
    · exact a3 x m
/-! tables that tell the same values -/
theorem some_of {β : Type} {T : List (Str × β)} {n : Str} {P : β → Prop} (h : ∀ b, valG T n = some b → P b) (g : (∃ b, P b) → ∃ b, valG T n = some b) : (valG T n).isSome = true ↔ ∃ b, P b := by
  refine ⟨fun e => ?_, fun w => ?_⟩
  · cases z : valG T n with
    | none => rw [z] at e; cases e
    | some b => exact ⟨b, h b z⟩
  · obtain ⟨b, e⟩ := g w
    rw [e]
    rfl
variable {os os2 : Its} {R S R' S' : Tb} {F F' : Fb} {L L' : List (Str × V)}
theorem Twl.hasR (t : Twl K H os2 os) {n : Str} {c : List V} (h : Has os (.rel n c)) : ∃ c2, Has os2 (.rel n c2) ∧ ∃ v, FvOk v ∧ DpAll K H c2 (fvD v) ∧ DpAll K H c (fvD v) := by
  obtain ⟨a, m⟩ := h
  obtain ⟨⟨b, j⟩, mj, v, o, h1, h2⟩ := t.mem m
  have d1 := h1.dp
  have d2 := h2.dp
  cases v <;> (try exact h2.elim)
  cases j <;> (try exact h1.elim)
  obtain ⟨rfl, _⟩ := h1
  obtain ⟨rfl, _⟩ := h2
  exact ⟨_, ⟨b, mj⟩, _, o, d1, d2⟩
theorem Twl.hasS (t : Twl K H os2 os) {n : Str} {c : List V} (h : Has os (.str n c)) : ∃ c2, Has os2 (.str n c2) ∧ ∃ v, FvOk v ∧ DpAll K H c2 (fvD v) ∧ DpAll K H c (fvD v) := by
  obtain ⟨a, m⟩ := h
  obtain ⟨⟨b, j⟩, mj, v, o, h1, h2⟩ := t.mem m
  have d1 := h1.dp
  have d2 := h2.dp
  cases v <;> (try exact h2.elim)
  cases j <;> (try exact h1.elim)
  obtain ⟨rfl, _⟩ := h1
  obtain ⟨rfl, _⟩ := h2
  exact ⟨_, ⟨b, mj⟩, _, o, d1, d2⟩
theorem Twl.hasL (t : Twl K H os2 os) {n : Str} {c : V} (h : Has os (.lay n c)) : ∃ c2, Has os2 (.lay n c2) ∧ ∃ d, Gd 1 d ∧ Dp K H c2 d ∧ Dp K H c d := by
  obtain ⟨a, m⟩ := h
  obtain ⟨⟨b, j⟩, mj, v, o, h1, h2⟩ := t.mem m
  cases v <;> (try exact h2.elim)
  cases j <;> (try exact h1.elim)
  obtain ⟨rfl, ct, rfl, e1⟩ := h1
  obtain ⟨rfl, ct2, rfl, e2⟩ := h2
  exact ⟨_, ⟨b, mj⟩, _, strs_gd o.2, .tup e1 (strD _), .tup e2 (strD _)⟩
theorem Twl.hasF (t : Twl K H os2 os) {n : Str} {row : List V} (h : ∃ r, Has os (.fact n r row)) : ∃ r, Has os2 (.fact n r row) := by
  obtain ⟨r, a, m⟩ := h
  obtain ⟨⟨b, j⟩, mj, v, o, h1, h2⟩ := t.mem m
  cases v <;> (try exact h2.elim)
  cases j <;> (try exact h1.elim)
  obtain ⟨rfl, rfl⟩ := h1
  obtain ⟨rfl, rfl⟩ := h2
  exact ⟨_, b, mj⟩
theorem Twl.eqR (t : Twl K H os2 os) (h : Rep os2 R F S L) (h' : Rep os R' F' S' L') : R.length = R'.length ∧ ∀ n q c, valG R' n = some (q, c) → ∃ q' c' v, valG R n = some (q', c') ∧ FvOk v ∧ DpAll K H c' (fvD v) ∧ DpAll K H c (fvD v) := by
  have key : ∀ n q c, valG R' n = some (q, c) → ∃ q' c' v, valG R n = some (q', c') ∧ FvOk v ∧ DpAll K H c' (fvD v) ∧ DpAll K H c (fvD v) := fun n q c e => by
    obtain ⟨c2, h2, v, o, d1, d2⟩ := t.hasR ((h'.r n c).mp ⟨q, e⟩)
    obtain ⟨q2, e2⟩ := (h.r n c2).mpr h2
    exact ⟨q2, c2, v, e2, o, d1, d2⟩
  have key2 : ∀ n q c, valG R n = some (q, c) → ∃ b, valG R' n = some b := fun n q c e => by
    obtain ⟨c2, h2, _⟩ := t.symm.hasR ((h.r n c).mp ⟨q, e⟩)
    obtain ⟨q2, e2⟩ := (h'.r n c2).mpr h2
    exact ⟨_, e2⟩
  refine ⟨keys_len h.rn h'.rn fun n => ?_, key⟩
  cases e : valG R n with
  | none =>
    cases e' : valG R' n with
    | none => rfl
    | some b =>
      obtain ⟨q', c', v, z, _⟩ := key n b.1 b.2 e'
      rw [e] at z
      cases z
  | some b =>
    obtain ⟨b', z⟩ := key2 n b.1 b.2 e
    rw [z]
    rfl
theorem Twl.eqS (t : Twl K H os2 os) (h : Rep os2 R F S L) (h' : Rep os R' F' S' L') : S.length = S'.length ∧ ∀ n q c, valG S' n = some (q, c) → ∃ q' c' v, valG S n = some (q', c') ∧ FvOk v ∧ DpAll K H c' (fvD v) ∧ DpAll K H c (fvD v) := by
  have key : ∀ n q c, valG S' n = some (q, c) → ∃ q' c' v, valG S n = some (q', c') ∧ FvOk v ∧ DpAll K H c' (fvD v) ∧ DpAll K H c (fvD v) := fun n q c e => by
    obtain ⟨c2, h2, v, o, d1, d2⟩ := t.hasS ((h'.s n c).mp ⟨q, e⟩)
    obtain ⟨q2, e2⟩ := (h.s n c2).mpr h2
    exact ⟨q2, c2, v, e2, o, d1, d2⟩
  have key2 : ∀ n q c, valG S n = some (q, c) → ∃ b, valG S' n = some b := fun n q c e => by
    obtain ⟨c2, h2, _⟩ := t.symm.hasS ((h.s n c).mp ⟨q, e⟩)
    obtain ⟨q2, e2⟩ := (h'.s n c2).mpr h2
    exact ⟨_, e2⟩
  refine ⟨keys_len h.sn h'.sn fun n => ?_, key⟩
  cases e : valG S n with
  | none =>
    cases e' : valG S' n with
    | none => rfl
    | some b =>
      obtain ⟨q', c', v, z, _⟩ := key n b.1 b.2 e'
      rw [e] at z
      cases z
  | some b =>
    obtain ⟨b', z⟩ := key2 n b.1 b.2 e
    rw [z]
    rfl
theorem Twl.eqL (t : Twl K H os2 os) (h : Rep os2 R F S L) (h' : Rep os R' F' S' L') : L.length = L'.length ∧ ∀ n v, valG L' n = some v → ∃ v' d, valG L n = some v' ∧ Gd 1 d ∧ Dp K H v' d ∧ Dp K H v d := by
  have key : ∀ n v, valG L' n = some v → ∃ v' d, valG L n = some v' ∧ Gd 1 d ∧ Dp K H v' d ∧ Dp K H v d := fun n v e => by
    obtain ⟨c2, h2, d, o, d1, d2⟩ := t.hasL ((h'.l n v).mp e)
    exact ⟨c2, d, (h.l n c2).mpr h2, o, d1, d2⟩
  have key2 : ∀ n v, valG L n = some v → ∃ b, valG L' n = some b := fun n v e => by
    obtain ⟨c2, h2, _⟩ := t.symm.hasL ((h.l n v).mp e)
    exact ⟨_, (h'.l n c2).mpr h2⟩
  refine ⟨keys_len h.ln h'.ln fun n => ?_, key⟩
  cases e : valG L n with
  | none =>
    cases e' : valG L' n with
    | none => rfl
    | some b =>
      obtain ⟨v', d, z, _⟩ := key n b e'
      rw [e] at z
      cases z
  | some b =>
    obtain ⟨b', z⟩ := key2 n b e
    rw [z]
    rfl
theorem Twl.eqF (t : Twl K H os2 os) (h : Rep os2 R F S L) (h' : Rep os R' F' S' L') : F.length = F'.length ∧ ∀ n q rs, valG F' n = some (q, rs) → ∃ q' rs', valG F n = some (q', rs') ∧ rs'.map (·.2) = rs.map (·.2) := by
  have sm : ∀ n, (valG F n).isSome = (valG F' n).isSome := fun n => Bool.eq_iff_iff.mpr (by
    rw [h.fn, h'.fn]
    refine ⟨fun w => ?_, fun w => ?_⟩
    · rcases w with ⟨c, w⟩ | ⟨r, row, w⟩
      · obtain ⟨c2, w2, _⟩ := t.symm.hasR w
        exact .inl ⟨c2, w2⟩
      · obtain ⟨r2, w2⟩ := t.symm.hasF ⟨r, w⟩
        exact .inr ⟨r2, row, w2⟩
    · rcases w with ⟨c, w⟩ | ⟨r, row, w⟩
      · obtain ⟨c2, w2, _⟩ := t.hasR w
        exact .inl ⟨c2, w2⟩
      · obtain ⟨r2, w2⟩ := t.hasF ⟨r, w⟩
        exact .inr ⟨r2, row, w2⟩)
  refine ⟨keys_len h.fd h'.fd sm, fun n q rs e => ?_⟩
  have z := sm n
  rw [e] at z
  cases e2 : valG F n with
  | none => rw [e2] at z; cases z
  | some b =>
    refine ⟨b.1, b.2, rfl, rows_eq (h.fs _ _ _ e2) (h'.fs _ _ _ e) fun row => ?_⟩
    have a1 := h.f n row
    have a2 := h'.f n row
    rw [e2] at a1
    rw [e] at a2
    refine ⟨fun w => ?_, fun w => ?_⟩
    · obtain ⟨q3, rs3, e3, w3⟩ := a2.mpr (t.symm.hasF (a1.mp ⟨_, _, rfl, w⟩))
      cases e3
      exact w3
    · obtain ⟨q3, rs3, e3, w3⟩ := a1.mpr (t.hasF (a2.mp ⟨_, _, rfl, w⟩))
      cases e3
      exact w3
end
end K1
namespace K1
open PySem PySem.Spec PyProof.Rows L2 Ow Tlz
def spIsSt2 (K : PySem.W.Frag) (C : Addr) : Sp := fun vs H Q _ => ∃ (x o dr df ds dl : Addr) (Z : Addr → Prop) (R S : Tb) (F : Fb) (L : List (Str × V)) (b : Nat) (os os2 : Its), vs = [.ref x, .ref o] ∧ StAt K C Z H x dr df ds dl R F S L b ∧ b ≤ 300 ∧
  SqL K H o (irf os) ∧ ItsG K H os ∧ KSrt os ∧ os.length ≤ 40 ∧ Rep os2 R F S L ∧ ItsG K H os2 ∧ KSrt os2 ∧ Twl K H os2 os ∧ Mak H Q fun z _ => z = .bl true
theorem isd_tab2 {K : PySem.W.Frag} {H : Hp} {T T' : Tb} (rt : ∀ e ∈ T, SqT K H e.2.1 e.2.2) (rt' : ∀ n q c, valG T' n = some (q, c) → SqT K H q c)
    (h : ∀ n q c, valG T' n = some (q, c) → ∃ q' c' v, valG T n = some (q', c') ∧ FvOk v ∧ DpAll K H c' (fvD v) ∧ DpAll K H c (fvD v)) : ∀ k v, valV (kvR T') k = some v → ∃ v' d, valV (kvR T) k = some v' ∧ Dp K H v' d ∧ Dp K H v d ∧ Gd 2 d := by
  intro k v e
  cases k with
  | inl i => rw [show valV (kvR T') (Sum.inl i) = none from valV_inl _ i T'] at e; cases e
  | inr n =>
    rw [kvR_val] at e
    cases z : valG T' n with
    | none => rw [z] at e; cases e
    | some x =>
      rw [z] at e
      have ev : V.ref x.1 = v := Option.some.inj e
      obtain ⟨q', c', w, e', o, d1, d2⟩ := h n x.1 x.2 z
      obtain ⟨g1, g2⟩ := fvD_gd o
      refine ⟨.ref q', .tuple (fvD w), by rw [kvR_val, e']; rfl, .tup (rt _ (valG_mem e')) d1, ?_, Gd.tup (by omega) g1⟩
      rw [← ev]
      exact .tup (rt' n x.1 x.2 z) d2
section
variable {P : Program} {w : World} {K : PySem.W.Frag} {mg : Str → Option Value} {base : Heap} {C : Addr}
theorem ok_isst2 {f : Addr} {fd : FuncData} (F0 : Fun K "_law_is_state" "_law_is_state" s_law_is_state f fd) (T : Bl mg) (X : Txt K mg C) (Sall : Kmt P w K mg base C 1 "all_items" ["self"] (spAll K C))
    (D_law_is_dict : Kn P w K mg base 5 "_law_is_dict" ["actual", "expected"] (spIsD K))
    (D_law_same : Kn P w K mg base 5 "_law_same" ["actual", "expected"] (spSm K 4)) :
    FnOk P w K mg base CX0 6 f fd ["actual", "ordered"] (spIsSt2 K C) := by
  refine F0.ok sc_law_is_state (fun vs H Q E h => ?_) (fun cdv A outer s0 H vs Q E hr h => ?_)
  · obtain ⟨x, o, dr, df, ds, dl, Z, R, S, F, L, b, os, os2, rfl, _⟩ := h
    rfl
  · obtain ⟨x, o, dr, df, ds, dl, Z, R, S, F, L, b, os, os2, rfl, st, hb, ho, og, ks, lo, rep, og2, ks2, tw, q⟩ := h
    have hu := hu_of hr
    have hr1 := hr.mono (show 1 ≤ 5 by decide)
    refine ⟨_, (pss_cons (ps_set (i := 2) sc_law_is_state.nd rfl (.inl rfl) (pe_lst (pa_cons pe_dnewK (pa_cons pe_dnewK (pa_cons pe_dnewK (pa_cons pe_dnewK pa_nil))))))
      (pss_cons (ps_for PassesOwn.never rfl (pi_list (pv 1)) (pg_name (i := 3) sc_law_is_state.nd rfl (.inl rfl)) (pss_one (ps_if (pt_cmpR op_eq (pe_ix ix_tup (pv 3) pe_int (fun _ _ => rfl)) pe_str (nomark _)) (pss_cons (ps_set (i := 4) sc_law_is_state.nd rfl (.inl rfl) (pe_ix ix_list (pv 2) pe_int (fun _ _ => rfl)))
      (pss_cons (ps_dput hu (pv 4) (pe_ix ix_tup (pv 3) pe_int (fun _ _ => rfl)) (pe_tup (pa_cons (pe_ix ix_tup (pv 3) pe_int (fun _ _ => rfl)) (pa_cons (pe_ix ix_tup (pv 3) pe_int (fun _ _ => rfl)) pa_nil))) rfl)
      (pss_cons (ps_set (i := 5) sc_law_is_state.nd rfl (.inl rfl) (pe_ix ix_list (pv 2) pe_int (fun _ _ => rfl)))
      (pss_one (ps_dput hu (pv 5) (pe_ix ix_tup (pv 3) pe_int (fun _ _ => rfl)) (pe_lst pa_nil) rfl))))) pss_nil)))
      (pss_cons (ps_for PassesOwn.never rfl (pi_list (pv 1)) (pg_name (i := 3) sc_law_is_state.nd rfl (.inl rfl)) (pss_cons (ps_if (pt_cmpR op_eq (pe_ix ix_tup (pv 3) pe_int (fun _ _ => rfl)) pe_str (nomark _)) (pss_cons (ps_set (i := 5) sc_law_is_state.nd rfl (.inl rfl) (pe_ix ix_list (pv 2) pe_int (fun _ _ => rfl)))
      (pss_one (ps_dput hu (pv 5) (pe_ix ix_tup (pv 3) pe_int (fun _ _ => rfl)) (pe_op op_cat (pe_dget2 hu (pv 5) (pe_ix ix_tup (pv 3) pe_int (fun _ _ => rfl)) (pe_lst pa_nil) ⟨rfl, rfl, rfl, rfl⟩) (pe_lst (pa_cons (pe_ix ix_tup (pv 3) pe_int (fun _ _ => rfl)) pa_nil))) rfl))) pss_nil)
      (pss_cons (ps_if (pt_cmpR op_eq (pe_ix ix_tup (pv 3) pe_int (fun _ _ => rfl)) pe_str (nomark _)) (pss_cons (ps_set (i := 6) sc_law_is_state.nd rfl (.inl rfl) (pe_ix ix_list (pv 2) pe_int (fun _ _ => rfl)))
      (pss_one (ps_dput hu (pv 6) (pe_ix ix_tup (pv 3) pe_int (fun _ _ => rfl)) (pe_slice sl_tupA (pv 3) (po_some pe_int) po_none) rfl))) pss_nil)
      (pss_one (ps_if (pt_cmpR op_eq (pe_ix ix_tup (pv 3) pe_int (fun _ _ => rfl)) pe_str (nomark _)) (pss_cons (ps_set (i := 7) sc_law_is_state.nd rfl (.inl rfl) (pe_ix ix_list (pv 2) pe_int (fun _ _ => rfl)))
      (pss_one (ps_dput hu (pv 7) (pe_ix ix_tup (pv 3) pe_int (fun _ _ => rfl)) (pe_ix ix_tup (pv 3) pe_int (fun _ _ => rfl)) rfl))) pss_nil)))))
      (pss_cons (ps_if (PW.pt (pw_or (pt_not (pt_val (pe_kn D_law_is_dict hr (pa_cons (pe_fld (pv 0) rfl) (pa_cons (pe_ix ix_list (pv 2) pe_int (fun _ _ => rfl)) pa_nil))))) (pw_or1 (pt_not (pt_val (pe_kn D_law_is_dict hr (pa_cons (pe_fld (pv 0) rfl) (pa_cons (pe_ix ix_list (pv 2) pe_int (fun _ _ => rfl)) pa_nil)))))))) (pss_one (ps_ret pe_bl)) pss_nil)
      (pss_cons (ps_if (PW.pt (pw_or (pt_not (pt_val (pe_kn D_law_is_dict hr (pa_cons (pe_fld (pv 0) rfl) (pa_cons (pe_ix ix_list (pv 2) pe_int (fun _ _ => rfl)) pa_nil))))) (pw_or1 (pt_not (pt_val (pe_kn D_law_is_dict hr (pa_cons (pe_fld (pv 0) rfl) (pa_cons (pe_ix ix_list (pv 2) pe_int (fun _ _ => rfl)) pa_nil)))))))) (pss_one (ps_ret pe_bl)) pss_nil)
      (pss_one (ps_ret (pe_kn D_law_same hr (pa_cons (pe_mt0 Sall hr (pv 0)) (pa_cons (pv 1) pa_nil)))))))))), ?_⟩
    have so := og.sc
    have n1 : ∀ {u v : Str}, u ≠ v → ¬ decide (V.str u = V.str v) = true := fun h e => h (V.str.inj (of_decide_eq_true e))
    have big : ∀ {β : Type} (vv : β → V) (l : List (Str × β)), l.length ≤ 60 → (kvG vv l).length < sizeLine := fun vv l hl => by
      rw [kvG_len]
      exact small (m := 1000) (by omega) (by decide)
    -- the four dicts
    refine fun e0 m0 => fun e1 m1 => fun e2 m2 => fun e3 m3 => ⟨sz 4, fun du ndu => ?_⟩
    have m1' : (upd H e0 (.dK [])) e1 = none := m1
    have s4 : Same H (upd (upd (upd (upd (upd H e0 (.dK [])) e1 (.dK [])) e2 (.dK [])) e3 (.dK [])) du (.lst [.ref e0, .ref e1, .ref e2, .ref e3])) := ((((Same.new m0).trans (Same.new m1)).trans (Same.new m2)).trans (Same.new m3)).trans (Same.new ndu)
    have x0 : (upd (upd (upd (upd (upd H e0 (.dK [])) e1 (.dK [])) e2 (.dK [])) e3 (.dK [])) du (.lst [.ref e0, .ref e1, .ref e2, .ref e3])) e0 = some (.dK []) := (((Same.new m1).trans (Same.new m2)).trans (Same.new m3)).trans (Same.new ndu) _ _ upd_same
    have x1 : (upd (upd (upd (upd (upd H e0 (.dK [])) e1 (.dK [])) e2 (.dK [])) e3 (.dK [])) du (.lst [.ref e0, .ref e1, .ref e2, .ref e3])) e1 = some (.dK []) := ((Same.new m2).trans (Same.new m3)).trans (Same.new ndu) _ _ upd_same
    have x2 : (upd (upd (upd (upd (upd H e0 (.dK [])) e1 (.dK [])) e2 (.dK [])) e3 (.dK [])) du (.lst [.ref e0, .ref e1, .ref e2, .ref e3])) e2 = some (.dK []) := (Same.new m3).trans (Same.new ndu) _ _ upd_same
    have x3 : (upd (upd (upd (upd (upd H e0 (.dK [])) e1 (.dK [])) e2 (.dK [])) e3 (.dK [])) du (.lst [.ref e0, .ref e1, .ref e2, .ref e3])) e3 = some (.dK []) := (Same.new ndu) _ _ upd_same
    have xd : (upd (upd (upd (upd (upd H e0 (.dK [])) e1 (.dK [])) e2 (.dK [])) e3 (.dK [])) du (.lst [.ref e0, .ref e1, .ref e2, .ref e3])) du = some (.lst [.ref e0, .ref e1, .ref e2, .ref e3]) := upd_same
    have n01 : e0 ≠ e1 := ne_of_none upd_same m1
    have n02 : e0 ≠ e2 := ne_of_none ((Same.new m1) _ _ upd_same) m2
    have n03 : e0 ≠ e3 := ne_of_none (((Same.new m1).trans (Same.new m2)) _ _ upd_same) m3
    have n12 : e1 ≠ e2 := ne_of_none upd_same m2
    have n13 : e1 ≠ e3 := ne_of_none ((Same.new m2) _ _ upd_same) m3
    have n23 : e2 ≠ e3 := ne_of_none upd_same m3
    have k0 : H e0 = none := m0
    have k1 : H e1 = none := (Same.new m0).free m1
    have k2 : H e2 = none := ((Same.new m0).trans (Same.new m1)).free m2
    have k3 : H e3 = none := (((Same.new m0).trans (Same.new m1)).trans (Same.new m2)).free m3
    clear m1' m1 m2 m3 ndu
    generalize (upd (upd (upd (upd (upd H e0 (.dK [])) e1 (.dK [])) e2 (.dK [])) e3 (.dK [])) du (.lst [.ref e0, .ref e1, .ref e2, .ref e3])) = H1 at *
    have da : DueAt K H1 e0 e1 e2 e3 [] [] [] [] 0 := ⟨x0, (fun n q c e => by cases e), x1, (fun n q rs e => by cases e), x2, (fun n q c e => by cases e), x3, n01, n02, n03, n12, n13, n23⟩
    clear x0 x1 x2 x3
    have dn0 : ∀ {H9 : Hp} {us : List V}, H9 du = some (.lst us) → ∀ {p : Addr} {kvs : List (Key × V)}, H9 p = some (.dK kvs) → du ≠ p := by
      intro H9 us h p kvs g z
      rw [z, g] at h
      cases h
    -- the relations
    refine ⟨_, rfl, o, rfl, ⟨_, s4.seq ho⟩, for_list (K := K) (a := o) (xs := irf os) (fun j σ H4 => ∃ (y3 y4 y5 : Option V) (R' : Tb) (F' : Fb), σ = [some (.ref x), some (.ref o), some (.ref du), y3, y4, y5, none, none] ∧ Same H H4 ∧ H4 du = some (.lst [.ref e0, .ref e1, .ref e2, .ref e3]) ∧
        DueAt K H4 e0 e1 e2 e3 R' F' [] [] 0 ∧ Rep ((os.take j).filter isRel) R' F' [] [])
      ⟨none, none, none, [], [], rfl, s4, xd, da, Rep.nil⟩ (fun j σ H4 _ hP => ?_) (fun j y σ H4 hy hP => ?_) (fun σ H4 hP => ?_)⟩
    · obtain ⟨_, _, _, _, _, _, s5, _⟩ := hP
      exact s5.seq ho
    · obtain ⟨y3, y4, y5, R', F', rfl, s5, ed, da, rp⟩ := hP
      obtain ⟨⟨a, i⟩, et, rfl⟩ := irf_get hy
      have mt := List.mem_of_getElem? et
      have jl : j < os.length := (List.getElem?_eq_some_iff.mp et).1
      have ig := (og _ mt).same s5
      have ft := filter_take (P := isRel) et
      obtain ⟨lR, lF, _, _⟩ := rp.len
      have lf := List.length_filter_le isRel (os.take j)
      rw [List.length_take] at lf
      cases i with
      | rel n c =>
        have ht : SqT K H4 a (.str "relation" :: .str n :: c) := ig.at_
        have lc : c.length = 2 := ig.l
        obtain ⟨u, v, ec⟩ : ∃ u v, c = [u, v] := by
          match c, lc with
          | [u, v], _ => exact ⟨u, v, rfl⟩
        subst ec
        refine ⟨_, rfl, a, _, 0, _, rfl, rfl, ht, at_of (j := 0) rfl rfl, rfl, _, rfl, ite2 (fun _ => ?_) (fun e => absurd (decide_eq_true rfl) e)⟩
        refine ⟨_, rfl, du, _, 0, .ref e0, rfl, rfl, SqL.of ed, at_of (j := 0) rfl rfl, ?_⟩
        refine ⟨_, rfl, a, _, 2, u, rfl, rfl, ht, at_of (j := 2) rfl rfl, _, rfl, a, _, 3, v, rfl, rfl, ht, at_of (j := 3) rfl rfl, sz 2, fun p np => ?_⟩
        have s6 := Same.new (o := .tup [u, v]) np
        have e6 := upd_same (H := H4) (a := p) (o := .tup [u, v])
        generalize (upd H4 p (.tup [u, v])) = H6 at *
        have da6 := da.same s6
        have dp := DPut.k (k := Sum.inr n) (v := .ref p) da6.r (big _ R' (by omega))
        refine ⟨_, rfl, _, rfl, a, _, 1, .str n, rfl, rfl, Tk.same s6 _ _ ht, at_of (j := 1) rfl rfl, e0, _, rfl, dp, ?_⟩
        have da7 := da6.rel (n := n) (SqT.of e6)
        have s7 : Same H (upd H6 e0 (.dK (putK (kvR R') (Sum.inr n) (.ref p)))) := Same.over (s5.trans s6) k0
        have ed7 : (upd H6 e0 (.dK (putK (kvR R') (Sum.inr n) (.ref p)))) du = some (.lst [.ref e0, .ref e1, .ref e2, .ref e3]) := by rw [upd_ne (dn0 (s6 _ _ ed) da6.r)]; exact s6 _ _ ed
        have tk7 : Tk K H4 (upd H6 e0 (.dK (putK (kvR R') (Sum.inr n) (.ref p)))) := (Tk.same s6).trans (Tk.dK da6.r)
        generalize (upd H6 e0 (.dK (putK (kvR R') (Sum.inr n) (.ref p)))) = H7 at *
        refine ⟨_, rfl, du, _, 1, .ref e1, rfl, rfl, SqL.of ed7, at_of (j := 1) rfl rfl, ?_⟩
        refine ⟨sz 0, fun p2 np2 => ?_⟩
        have s8 := Same.new (o := .lst []) np2
        have e8 := upd_same (H := H7) (a := p2) (o := .lst [])
        generalize (upd H7 p2 (.lst [])) = H8 at *
        have da8 := da7.same s8
        have dp2 := DPut.k (k := Sum.inr n) (v := .ref p2) da8.f (big _ F' (by omega))
        refine ⟨_, rfl, _, rfl, a, _, 1, .str n, rfl, rfl, (tk7.trans (Tk.same s8)) _ _ ht, at_of (j := 1) rfl rfl, e1, _, rfl, dp2, ?_⟩
        have da9 := da8.fac (n := n) (rs := []) e8 (fun _ m => nomatch m) (Nat.le_refl _)
        have s9 : Same H (upd H8 e1 (.dK (putK (kvF F') (Sum.inr n) (.ref p2)))) := Same.over (s7.trans s8) k1
        have ed9 : (upd H8 e1 (.dK (putK (kvF F') (Sum.inr n) (.ref p2)))) du = some (.lst [.ref e0, .ref e1, .ref e2, .ref e3]) := by rw [upd_ne (dn0 (s8 _ _ ed7) da8.f)]; exact s8 _ _ ed7
        refine ⟨_, _, _, _, _, rfl, s9, ed9, da9, ?_⟩
        have fn : valG F' n = none := by
          cases z : valG F' n with
          | none => rfl
          | some bb =>
            have w1 := (rp.fn n).mp (by rw [z]; rfl)
            rcases w1 with ⟨c', hc⟩ | ⟨r, row, hc⟩
            · obtain ⟨a', m', _⟩ := has_filter.mp hc
              obtain ⟨k, hk⟩ := List.mem_iff_getElem?.mp m'
              have kj : k < j := by
                have := (List.getElem?_eq_some_iff.mp hk).1
                rw [List.length_take] at this
                omega
              rw [List.getElem?_take_of_lt kj] at hk
              obtain ⟨pk, ek⟩ := List.getElem?_eq_some_iff.mp hk
              obtain ⟨pj, ej⟩ := List.getElem?_eq_some_iff.mp et
              have l := List.pairwise_iff_getElem.mp ks k j pk pj kj
              rw [ek, ej] at l
              exact (tEq_lt (so _ mt) (eq_rel.mpr rfl) l).elim
            · obtain ⟨a', m', z'⟩ := has_filter.mp hc
              cases z'
        rw [ft]
        refine rp.last (t := (a, .rel n [u, v])) ⟨⟨p, rfl⟩, .inr ⟨p2, fn, putG_new _ fn⟩, rfl, rfl⟩ (fun u m => so u (List.mem_of_mem_take (List.mem_filter.mp m).1)) (so _ mt) fun u m => ?_
        obtain ⟨k, hk⟩ := List.mem_iff_getElem?.mp (List.mem_filter.mp m).1
        have kj : k < j := by
          have := (List.getElem?_eq_some_iff.mp hk).1
          rw [List.length_take] at this
          omega
        rw [List.getElem?_take_of_lt kj] at hk
        obtain ⟨pk, ek⟩ := List.getElem?_eq_some_iff.mp hk
        obtain ⟨pj, ej⟩ := List.getElem?_eq_some_iff.mp et
        have l := List.pairwise_iff_getElem.mp ks k j pk pj kj
        rw [ek, ej] at l
        exact l
      | fact n r row =>
        refine ⟨_, rfl, a, _, 0, _, rfl, rfl, ig.at_.1, at_of (j := 0) rfl rfl, rfl, _, rfl, ite2 (fun e => absurd e (n1 (by decide +kernel))) (fun _ => ?_)⟩
        rw [ft]
        exact ⟨_, _, _, _, _, rfl, s5, ed, da, by rw [show isRel (a, It.fact n r row) = false from rfl, if_neg Bool.false_ne_true, List.append_nil]; exact rp⟩
      | str n c =>
        refine ⟨_, rfl, a, _, 0, _, rfl, rfl, ig.at_, at_of (j := 0) rfl rfl, rfl, _, rfl, ite2 (fun e => absurd e (n1 (by decide +kernel))) (fun _ => ?_)⟩
        rw [ft]
        exact ⟨_, _, _, _, _, rfl, s5, ed, da, by rw [show isRel (a, It.str n c) = false from rfl, if_neg Bool.false_ne_true, List.append_nil]; exact rp⟩
      | lay n v =>
        refine ⟨_, rfl, a, _, 0, _, rfl, rfl, ig.at_, at_of (j := 0) rfl rfl, rfl, _, rfl, ite2 (fun e => absurd e (n1 (by decide +kernel))) (fun _ => ?_)⟩
        rw [ft]
        exact ⟨_, _, _, _, _, rfl, s5, ed, da, by rw [show isRel (a, It.lay n v) = false from rfl, if_neg Bool.false_ne_true, List.append_nil]; exact rp⟩
    obtain ⟨y3, y4, y5, R1, F1, rfl, s5, ed, da, rp⟩ := hP
    rw [irf_len, List.take_length] at rp
    clear s4 xd
    -- the others
    refine ⟨_, rfl, o, rfl, ⟨_, s5.seq ho⟩, for_list (K := K) (a := o) (xs := irf os) (fun j σ H4 => ∃ (y3 y5 y6 y7 : Option V) (F' : Fb) (S' : Tb) (L' : List (Str × V)), σ = [some (.ref x), some (.ref o), some (.ref du), y3, y4, y5, y6, y7] ∧ Same H H4 ∧ H4 du = some (.lst [.ref e0, .ref e1, .ref e2, .ref e3]) ∧
        DueAt K H4 e0 e1 e2 e3 R1 F' S' L' j ∧ Rep (os.filter isRel ++ (os.take j).filter fun t => !isRel t) R1 F' S' L')
      ⟨y3, y5, none, none, F1, [], [], rfl, s5, ed, da, by rw [List.take_zero, List.filter_nil, List.append_nil]; exact rp⟩ (fun j σ H4 _ hP => ?_) (fun j y σ H4 hy hP => ?_) (fun σ H4 hP => ?_)⟩
    · obtain ⟨_, _, _, _, _, _, _, _, s6, _⟩ := hP
      exact s6.seq ho
    · obtain ⟨y3, y5, y6, y7, F', S', L', rfl, s6, ed, da, rp⟩ := hP
      obtain ⟨⟨a, i⟩, et, rfl⟩ := irf_get hy
      have mt := List.mem_of_getElem? et
      have jl : j < os.length := (List.getElem?_eq_some_iff.mp et).1
      have ig := (og _ mt).same s6
      have ft := filter_take (P := fun t => !isRel t) et
      have sp : ScI (os.filter isRel ++ (os.take j).filter fun t => !isRel t) := fun u m => by
        rcases List.mem_append.mp m with m | m
        · exact so u (List.mem_filter.mp m).1
        · exact so u (List.mem_of_mem_take (List.mem_filter.mp m).1)
      have lt : isRel (a, i) = false → ∀ u ∈ os.filter isRel ++ (os.take j).filter fun t => !isRel t, tLt (te u) (te (a, i)) := fun hi u m => by
        rcases List.mem_append.mp m with m | m
        · obtain ⟨m, hu⟩ := List.mem_filter.mp m
          obtain ⟨b', i'⟩ := u
          cases i' with
          | rel n' c' =>
            refine (tLt_iff _ _).mpr (.inl ?_)
            cases i with
            | rel n c => cases hi
            | fact n r row => show (0 : Int) < 1; decide
            | str n c => show (0 : Int) < 2; decide
            | lay n v => show (0 : Int) < 3; decide
          | _ => cases hu
        · obtain ⟨k, hk⟩ := List.mem_iff_getElem?.mp (List.mem_filter.mp m).1
          have kj : k < j := by
            have := (List.getElem?_eq_some_iff.mp hk).1
            rw [List.length_take] at this
            omega
          rw [List.getElem?_take_of_lt kj] at hk
          obtain ⟨pk, ek⟩ := List.getElem?_eq_some_iff.mp hk
          obtain ⟨pj, ej⟩ := List.getElem?_eq_some_iff.mp et
          have l := List.pairwise_iff_getElem.mp ks k j pk pj kj
          rw [ek, ej] at l
          exact l
      obtain ⟨lR, lF, lS, lL⟩ := rp.len
      have lf := List.length_filter_le (fun t => !isRel t) (os.take j)
      have lf2 := List.length_filter_le isRel os
      rw [List.length_take] at lf
      rw [List.length_append] at lR lF lS lL
      have lF' : F'.length ≤ 60 ∨ 60 < F'.length := by omega
      have wle : F'.length ≤ 80 := by omega
      have big2 : ∀ {β : Type} (vv : β → V) (l : List (Str × β)), l.length ≤ 80 → (kvG vv l).length < sizeLine := fun vv l hl => by
        rw [kvG_len]
        exact small (m := 1000) (by omega) (by decide)
      cases i with
      | rel n c =>
        refine ⟨_, rfl, a, _, 0, _, rfl, rfl, ig.at_, at_of (j := 0) rfl rfl, rfl, _, rfl, ite2 (fun e => absurd e (n1 (by decide +kernel))) (fun _ => ?_)⟩
        refine ⟨_, rfl, a, _, 0, _, rfl, rfl, ig.at_, at_of (j := 0) rfl rfl, rfl, _, rfl, ite2 (fun e => absurd e (n1 (by decide +kernel))) (fun _ => ?_)⟩
        refine ⟨_, rfl, a, _, 0, _, rfl, rfl, ig.at_, at_of (j := 0) rfl rfl, rfl, _, rfl, ite2 (fun e => absurd e (n1 (by decide +kernel))) (fun _ => ?_)⟩
        rw [ft]
        exact ⟨_, _, _, _, _, _, _, rfl, s6, ed, da.up (by omega), by rw [show (!isRel (a, It.rel n c)) = false from rfl, if_neg Bool.false_ne_true, List.append_nil]; exact rp⟩
      | fact n r row =>
        obtain ⟨ht, hrow, srow, lrow⟩ := ig.at_
        refine ⟨_, rfl, a, _, 0, _, rfl, rfl, ht, at_of (j := 0) rfl rfl, rfl, _, rfl, ite2 (fun _ => ?_) (fun e => absurd (decide_eq_true rfl) e)⟩
        refine ⟨_, rfl, du, _, 1, .ref e1, rfl, rfl, SqL.of ed, at_of (j := 1) rfl rfl, ?_⟩
        refine ⟨_, rfl, e1, rfl, .inl ⟨_, .inl da.f⟩, _, rfl, a, _, 1, .str n, rfl, rfl, ht, at_of (j := 1) rfl rfl, sz 0, fun p np => ?_⟩
        have s7 := Same.new (o := .lst []) np
        have e7 := upd_same (H := H4) (a := p) (o := .lst [])
        generalize (upd H4 p (.lst [])) = H7 at *
        have da7 := da.same s7
        have fnd : ∃ (z : Option V) (l : Addr), DGet H7 e1 (.str n) z ∧ z.getD (.ref p) = .ref l ∧ H7 l = some (.lst (rrefs (rOf F' n))) ∧ RowsOk K H7 (rOf F' n) ∧ (rOf F' n).length ≤ j := by
          cases e : valG F' n with
          | none =>
            have er : rOf F' n = [] := by unfold rOf; rw [e]
            rw [er]
            exact ⟨none, p, .inl ⟨kvF F', Sum.inr n, .inl da7.f, rfl, by rw [kvF_val, e]; rfl⟩, rfl, e7, (fun _ m => nomatch m), Nat.zero_le _⟩
          | some b' =>
            obtain ⟨q0, rs⟩ := b'
            rw [rOf_eq e]
            obtain ⟨h1, h2, h3⟩ := da7.ft n q0 rs e
            exact ⟨some (.ref q0), q0, dgetF (.inl da7.f) e, rfl, h1, h2, h3⟩
        obtain ⟨z, l, dg, ez, hl, hro, hlen⟩ := fnd
        refine ⟨z, dg, ?_⟩
        rw [ez]
        refine ⟨_, rfl, a, _, 2, .ref r, rfl, rfl, Tk.same s7 _ _ ht, at_of (j := 2) rfl rfl, sz 1, fun p2 np2 => ?_⟩
        have s8 := Same.new (o := .lst [V.ref r]) np2
        have e8 := upd_same (H := H7) (a := p2) (o := .lst [V.ref r])
        generalize (upd H7 p2 (.lst [V.ref r])) = H8 at *
        refine ⟨l, p2, _, _, rfl, rfl, s8 _ _ hl, e8, sz _ (by rw [rrefs_len]; show _ + 1 ≤ 1000; omega), fun p3 np3 => ?_⟩
        have s9 := Same.new (o := .lst (rrefs (rOf F' n) ++ [V.ref r])) np3
        have e9 := upd_same (H := H8) (a := p3) (o := .lst (rrefs (rOf F' n) ++ [V.ref r]))
        generalize (upd H8 p3 (.lst (rrefs (rOf F' n) ++ [V.ref r]))) = H9 at *
        have s79 := (s7.trans s8).trans s9
        have da9 := da.same s79
        have dp2 := DPut.k (k := Sum.inr n) (v := .ref p3) da9.f (big2 _ F' wle)
        refine ⟨_, rfl, _, rfl, a, _, 1, .str n, rfl, rfl, Tk.same s79 _ _ ht, at_of (j := 1) rfl rfl, e1, _, rfl, dp2, ?_⟩
        have er9 : rrefs (rOf F' n) ++ [V.ref r] = rrefs (rOf F' n ++ [(r, row)]) := (rrefs_snoc (t := (r, row))).symm
        rw [er9] at e9
        have da10 := (da9.up (c := j + 1) (by omega)).fac (n := n) e9 ((hro.same (s8.trans s9)).snoc (Tk.same s79 _ _ hrow) srow lrow) (by rw [List.length_append]; show _ + 1 ≤ j + 1; omega)
        have s10 : Same H (upd H9 e1 (.dK (putK (kvF F') (Sum.inr n) (.ref p3)))) := Same.over (s6.trans s79) k1
        have ed9 := s79 _ _ ed
        have ed10 : (upd H9 e1 (.dK (putK (kvF F') (Sum.inr n) (.ref p3)))) du = some (.lst [.ref e0, .ref e1, .ref e2, .ref e3]) := by rw [upd_ne (dn0 ed9 da9.f)]; exact ed9
        have tk10 : Tk K H4 (upd H9 e1 (.dK (putK (kvF F') (Sum.inr n) (.ref p3)))) := (Tk.same s79).trans (Tk.dK da9.f)
        generalize (upd H9 e1 (.dK (putK (kvF F') (Sum.inr n) (.ref p3)))) = H10 at *
        refine ⟨_, rfl, a, _, 0, _, rfl, rfl, tk10 _ _ ht, at_of (j := 0) rfl rfl, rfl, _, rfl, ite2 (fun e => absurd e (n1 (by decide +kernel))) (fun _ => ?_)⟩
        refine ⟨_, rfl, a, _, 0, _, rfl, rfl, tk10 _ _ ht, at_of (j := 0) rfl rfl, rfl, _, rfl, ite2 (fun e => absurd e (n1 (by decide +kernel))) (fun _ => ?_)⟩
        refine ⟨_, _, _, _, _, _, _, rfl, s10, ed10, da10, ?_⟩
        rw [ft, show (!isRel (a, It.fact n r row)) = true from rfl, if_pos rfl, ← List.append_assoc]
        exact rp.lastF sp srow (lt rfl)
      | str n c =>
        have ht : SqT K H4 a (.str "structure" :: .str n :: c) := ig.at_
        refine ⟨_, rfl, a, _, 0, _, rfl, rfl, ht, at_of (j := 0) rfl rfl, rfl, _, rfl, ite2 (fun e => absurd e (n1 (by decide +kernel))) (fun _ => ?_)⟩
        refine ⟨_, rfl, a, _, 0, _, rfl, rfl, ht, at_of (j := 0) rfl rfl, rfl, _, rfl, ite2 (fun _ => ?_) (fun e => absurd (decide_eq_true rfl) e)⟩
        refine ⟨_, rfl, du, _, 2, .ref e2, rfl, rfl, SqL.of ed, at_of (j := 2) rfl rfl, ?_⟩
        refine ⟨_, rfl, 2, rfl, a, _, rfl, ht, fun w => absurd w (cut2 _ _ c).2, fun _ p np => ?_⟩
        rw [(cut2 _ _ c).1]
        have s7 := Same.new (o := .tup c) np
        have e7 := upd_same (H := H4) (a := p) (o := .tup c)
        generalize (upd H4 p (.tup c)) = H7 at *
        have da7 := da.same s7
        have dp2 := DPut.k (k := Sum.inr n) (v := .ref p) da7.s (big2 _ S' (by omega))
        refine ⟨_, rfl, _, rfl, a, _, 1, .str n, rfl, rfl, Tk.same s7 _ _ ht, at_of (j := 1) rfl rfl, e2, _, rfl, dp2, ?_⟩
        have da8 := (da7.up (c := j + 1) (by omega)).stru (n := n) (SqT.of e7)
        have s8 : Same H (upd H7 e2 (.dK (putK (kvR S') (Sum.inr n) (.ref p)))) := Same.over (s6.trans s7) k2
        have ed8 : (upd H7 e2 (.dK (putK (kvR S') (Sum.inr n) (.ref p)))) du = some (.lst [.ref e0, .ref e1, .ref e2, .ref e3]) := by rw [upd_ne (dn0 (s7 _ _ ed) da7.s)]; exact s7 _ _ ed
        have tk8 : Tk K H4 (upd H7 e2 (.dK (putK (kvR S') (Sum.inr n) (.ref p)))) := (Tk.same s7).trans (Tk.dK da7.s)
        generalize (upd H7 e2 (.dK (putK (kvR S') (Sum.inr n) (.ref p)))) = H8 at *
        refine ⟨_, rfl, a, _, 0, _, rfl, rfl, tk8 _ _ ht, at_of (j := 0) rfl rfl, rfl, _, rfl, ite2 (fun e => absurd e (n1 (by decide +kernel))) (fun _ => ?_)⟩
        refine ⟨_, _, _, _, _, _, _, rfl, s8, ed8, da8, ?_⟩
        rw [ft, show (!isRel (a, It.str n c)) = true from rfl, if_pos rfl, ← List.append_assoc]
        exact rp.last (t := (a, .str n c)) ⟨⟨p, rfl⟩, rfl, rfl, rfl⟩ sp (so _ mt) (lt rfl)
      | lay n v =>
        have ht : SqT K H4 a [.str "layout", .str n, v] := ig.at_
        refine ⟨_, rfl, a, _, 0, _, rfl, rfl, ht, at_of (j := 0) rfl rfl, rfl, _, rfl, ite2 (fun e => absurd e (n1 (by decide +kernel))) (fun _ => ?_)⟩
        refine ⟨_, rfl, a, _, 0, _, rfl, rfl, ht, at_of (j := 0) rfl rfl, rfl, _, rfl, ite2 (fun e => absurd e (n1 (by decide +kernel))) (fun _ => ?_)⟩
        refine ⟨_, rfl, a, _, 0, _, rfl, rfl, ht, at_of (j := 0) rfl rfl, rfl, _, rfl, ite2 (fun _ => ?_) (fun e => absurd (decide_eq_true rfl) e)⟩
        refine ⟨_, rfl, du, _, 3, .ref e3, rfl, rfl, SqL.of ed, at_of (j := 3) rfl rfl, ?_⟩
        have dp2 := DPut.k (k := Sum.inr n) (v := v) da.l (big2 _ L' (by omega))
        refine ⟨_, rfl, a, _, 2, v, rfl, rfl, ht, at_of (j := 2) rfl rfl, _, rfl, _, rfl, a, _, 1, .str n, rfl, rfl, ht, at_of (j := 1) rfl rfl, e3, _, rfl, dp2, ?_⟩
        have ed8 : (upd H4 e3 (.dK (putK (kvG id L') (Sum.inr n) v))) du = some (.lst [.ref e0, .ref e1, .ref e2, .ref e3]) := by rw [upd_ne (dn0 ed da.l)]; exact ed
        refine ⟨_, _, _, _, _, _, _, rfl, Same.over s6 k3, ed8, (da.up (c := j + 1) (by omega)).lay (n := n), ?_⟩
        rw [ft, show (!isRel (a, It.lay n v)) = true from rfl, if_pos rfl, ← List.append_assoc]
        exact rp.last (t := (a, .lay n v)) ⟨rfl, rfl, rfl, rfl⟩ sp (so _ mt) (lt rfl)
    obtain ⟨y3, y5, y6, y7, F', S', L', rfl, s6, ed, da, rp⟩ := hP
    rw [irf_len] at da rp
    rw [List.take_length] at rp
    clear s5
    have rp2 : Rep os R1 F' S' L' := rp.congr fun i => by
      unfold Has
      refine exists_congr fun a => ?_
      rw [List.mem_append, List.mem_filter, List.mem_filter]
      cases isRel (a, i) <;> simp
    have tg := (TabG.of rep og2).same s6
    have tw6 := tw.tk (Tk.same s6)
    have lo2 := tw.len
    have st6 := st.same s6
    obtain ⟨dx, ob⟩ := st6.ob
    have ne0 : dr ≠ e0 := ne_of_none st.r k0
    have ne1 : df ≠ e1 := ne_of_none st.f k1
    have ne2 : ds ≠ e2 := ne_of_none st.s k2
    have ne3 : dl ≠ e3 := ne_of_none st.l k3
    obtain ⟨lR, vR⟩ := tw6.eqR rep rp2
    obtain ⟨lF, vF⟩ := tw6.eqF rep rp2
    obtain ⟨lS, vS⟩ := tw6.eqS rep rp2
    obtain ⟨lL, vL⟩ := tw6.eqL rep rp2
    obtain ⟨bR, bF, bS, bL⟩ := rep.len
    -- relations, facts
    refine ⟨_, rfl, x, C, dx, _, _, rfl, ob, X.cl, X.nR, flds_r _ _ _ _, _, rfl, du, _, 0, .ref e0, rfl, rfl, SqL.of ed, at_of (j := 0) rfl rfl, dr, e0, kvR R, kvR R1, rfl, st6.r, da.r, ne0, by unfold kvR; rw [kvG_len, kvG_len, lR], isd_tab2 st6.rt da.rt vR, ?_⟩
    rintro z7 H7 rfl s7
    refine ⟨_, rfl, ?_⟩
    refine iteF ?_
    have st7 := st6.same s7
    have da7 := da.same s7
    refine ⟨_, rfl, x, C, dx, _, _, rfl, s7 _ _ ob, X.cl, X.nF, flds_f _ _ _ _, _, rfl, du, _, 1, .ref e1, rfl, rfl, SqL.of (s7 _ _ ed), at_of (j := 1) rfl rfl, df, e1, kvF F, kvF F', rfl, st7.f, da7.f, ne1, by unfold kvF; rw [kvG_len, kvG_len, lF], ?_, ?_⟩
    · intro k v e
      cases k with
      | inl i => rw [show valV (kvF F') (Sum.inl i) = none from valV_inl _ i F'] at e; cases e
      | inr n =>
        rw [kvF_val] at e
        cases z : valG F' n with
        | none => rw [z] at e; cases e
        | some xx =>
          rw [z] at e
          have ev : V.ref xx.1 = v := Option.some.inj e
          obtain ⟨q', rs', e', er⟩ := vF n xx.1 xx.2 z
          obtain ⟨h1, h2, h3⟩ := da7.ft n xx.1 xx.2 z
          obtain ⟨h4, h5, h6⟩ := st7.ft _ (valG_mem e')
          have h6' : rs'.length ≤ b := h6
          have ed1 : rs'.map (fun t => rowD t.2) = xx.2.map fun t => rowD t.2 := by
            have := congrArg (List.map rowD) er
            rw [List.map_map, List.map_map] at this
            exact this
          refine ⟨.ref q', .list (rs'.map fun t => rowD t.2), by rw [kvF_val, e']; rfl, .lst (SqL.of h4) (rws_dp h5), ?_, Gd.lst (by rw [List.length_map]; omega) fun d m => ?_⟩
          · rw [← ev, ed1]
            exact .lst (SqL.of h1) (rws_dp h2)
          · obtain ⟨t, mt, rfl⟩ := List.mem_map.mp m
            exact Gd.row (h5 t mt).2.1 (by have := (h5 t mt).2.2; omega)
    rintro z8 H8 rfl s8
    refine ⟨_, rfl, ?_⟩
    refine iteF ?_
    have s78 := s7.trans s8
    have st8 := st6.same s78
    have da8 := da.same s78
    have tg8 := tg.same s78
    -- structures, layouts
    refine ⟨_, rfl, x, C, dx, _, _, rfl, s78 _ _ ob, X.cl, X.nS, flds_s _ _ _ _, _, rfl, du, _, 2, .ref e2, rfl, rfl, SqL.of (s78 _ _ ed), at_of (j := 2) rfl rfl, ds, e2, kvR S, kvR S', rfl, st8.s, da8.s, ne2, by unfold kvR; rw [kvG_len, kvG_len, lS], isd_tab2 st8.st da8.st ((tw6.tk (Tk.same s78)).eqS rep rp2).2, ?_⟩
    rintro z9 H9 rfl s9
    refine ⟨_, rfl, ?_⟩
    refine iteF ?_
    have s79 := s78.trans s9
    have st9 := st6.same s79
    have da9 := da.same s79
    have tg9 := tg.same s79
    refine ⟨_, rfl, x, C, dx, _, _, rfl, s79 _ _ ob, X.cl, X.nL, flds_l _ _ _ _, _, rfl, du, _, 3, .ref e3, rfl, rfl, SqL.of (s79 _ _ ed), at_of (j := 3) rfl rfl, dl, e3, kvG id L, kvG id L', rfl, st9.l, da9.l, ne3, by rw [kvG_len, kvG_len, lL], ?_, ?_⟩
    · intro k v e
      cases k with
      | inl i => rw [show valV (kvG id L') (Sum.inl i) = none from valV_inl _ i L'] at e; cases e
      | inr n =>
        rw [kvG_val] at e
        cases z : valG L' n with
        | none => rw [z] at e; cases e
        | some v' =>
          rw [z] at e
          have ev : v' = v := Option.some.inj e
          subst ev
          obtain ⟨v2, d, e', g1, d1, d2⟩ := ((tw6.tk (Tk.same s79)).eqL rep rp2).2 n v' z
          exact ⟨v2, d, by rw [kvG_val, e']; rfl, d1, d2, g1.up (by omega)⟩
    rintro z10 H10 rfl s10
    refine ⟨_, rfl, ?_⟩
    refine iteF ?_
    have s70 := s79.trans s10
    have st10 := st6.same s70
    -- all items
    refine ⟨_, rfl, x, dx, _, rfl, s70 _ _ ob, flds_no _ _ _ _ (by decide +kernel), ?_⟩
    refine ⟨x, dr, df, ds, dl, Z, R, S, F, L, b, rfl, st10, hb, tg.same s70, by omega, by omega, by omega, by omega, fun its p ys fs ss ls H11 py sy pf sf ps ss' pl sl ee s11 np ep ig => ?_⟩
    have s611 := (s6.trans s70).trans s11
    have eqt := ee.trans (allE_eq rep ks2 og2.sc py sy pf sf ps ss' pl sl)
    obtain ⟨dd, d1, d2, gd⟩ := (Twl.te eqt (tw.tk (Tk.same s611))).data ig (og.same s611)
    have ll : dd.length ≤ 1000 := by
      have := DpAll.len d2
      rw [irf_len] at this
      omega
    have gl := Gd.lst ll gd
    refine ⟨_, rfl, .ref p, .ref o, .list dd, rfl, .lst (SqL.of ep) d1, .lst (s611.seq ho) d2, gl.i, gl.d, ?_⟩
    rintro z12 H12 rfl s12
    exact q _ _ rfl (s611.trans s12)
end
end K1
/-! dicts whose keys are tuples of numbers, texts and tuples: the dict's own object is told, its keys' tuples stand in the heap -/
namespace Ow
open PySem PySem.Spec PyProof.Rows L2
/-- a thing that is the object o -/
def exO (d : Addr) (o : Obj) : HO := .ext fun h => h.get? d = some o
theorem exO_ok {P : Program} {w : World} {H : Hp} {h : Heap} {d : Addr} {o : Obj} (e : h.get? d = some o) : ObjOk P w H h d (exO d o) := by
  show ObjOk P w H h d (.ext fun h => h.get? d = some o)
  unfold ObjOk
  exact ⟨e, ⟨o, e⟩, fun _ _ a b => b _ a⟩
theorem exO_get {P : Program} {w : World} {H : Hp} {h : Heap} {d : Addr} {o : Obj} (k : HOk P w H h) (e : H d = some (exO d o)) : h.get? d = some o := by
  have z := k d _ e
  unfold exO ObjOk at z
  exact z.1
abbrev NE := NestedKey × Addr × V
inductive NRel : List NE → List (NestedKey × Addr × Value) → Prop
  | nil : NRel [] []
  | cons {k : NestedKey} {b : Addr} {v : V} {u : Value} {xs : List NE} {ys : List (NestedKey × Addr × Value)} : RelV v u → NRel xs ys → NRel ((k, b, v) :: xs) ((k, b, u) :: ys)
theorem NRel.len {xs : List NE} {ys : List (NestedKey × Addr × Value)} (h : NRel xs ys) : xs.length = ys.length := by
  induction h with
  | nil => rfl
  | cons _ _ ih => rw [List.length_cons, List.length_cons, ih]
theorem NRel.mem {xs : List NE} {ys : List (NestedKey × Addr × Value)} (h : NRel xs ys) {y : NestedKey × Addr × Value} (m : y ∈ ys) : ∃ v, (y.1, y.2.1, v) ∈ xs := by
  induction h with
  | nil => cases m
  | @cons k b v u xs ys r _ ih =>
    rcases List.mem_cons.mp m with z | m
    · exact ⟨v, by rw [z]; exact List.mem_cons_self⟩
    · obtain ⟨v', g⟩ := ih m
      exact ⟨v', List.mem_cons_of_mem _ g⟩
theorem NRel.get {xs : List NE} {ys : List (NestedKey × Addr × Value)} (h : NRel xs ys) : ∀ {i : Nat} {x : NE}, xs[i]? = some x → ∃ u, ys[i]? = some (x.1, x.2.1, u) ∧ RelV x.2.2 u := by
  induction h with
  | nil => intro i x e; simp at e
  | @cons k b v u xs ys r _ ih =>
    intro i x e
    cases i with
    | zero => cases e; exact ⟨u, rfl, r⟩
    | succ i => exact ih (i := i) e
/-- the value at a key -/
def atN (xs : List NE) (k : NestedKey) : Option V := (xs.find? fun e => decide (e.1 = k)).map fun e => e.2.2
theorem NRel.at_ {xs : List NE} {ys : List (NestedKey × Addr × Value)} (h : NRel xs ys) (k : NestedKey) : (atN xs k = none ∧ atKey ys k = none) ∨ ∃ v b u, atN xs k = some v ∧ atKey ys k = some (b, u) ∧ RelV v u := by
  induction h with
  | nil => exact .inl ⟨rfl, rfl⟩
  | @cons k' b v u xs ys r _ ih =>
    by_cases z : k' = k
    · refine .inr ⟨v, b, u, ?_, ?_, r⟩
      · unfold atN
        rw [List.find?_cons, decide_eq_true z]
        rfl
      · unfold atKey
        rw [List.find?_cons, decide_eq_true z]
        rfl
    · have e1 : atN ((k', b, v) :: xs) k = atN xs k := by
        unfold atN
        rw [List.find?_cons, decide_eq_false z]
      have e2 : atKey ((k', b, u) :: ys) k = atKey ys k := by
        unfold atKey
        rw [List.find?_cons, decide_eq_false z]
      rw [e1, e2]
      exact ih
theorem NRel.some_ {xs : List NE} {ys : List (NestedKey × Addr × Value)} (h : NRel xs ys) (k : NestedKey) : (atKey ys k).isSome = (atN xs k).isSome := by
  rcases h.at_ k with ⟨a, b⟩ | ⟨v, b, u, e1, e2, _⟩
  · rw [a, b]; rfl
  · rw [e1, e2]; rfl
/-- a key stored -/
def putN (xs : List NE) (k : NestedKey) (b : Addr) (v : V) : List NE := if (atN xs k).isSome = true then xs.map (fun e => if e.1 = k then (e.1, e.2.1, v) else e) else xs ++ [(k, b, v)]
theorem NRel.put {xs : List NE} {ys : List (NestedKey × Addr × Value)} (h : NRel xs ys) (k : NestedKey) (b : Addr) {v : V} {u : Value} (r : RelV v u) : NRel (putN xs k b v) (storedH ys k b u) := by
  unfold putN storedH
  rw [h.some_ k]
  have m : ∀ {xs : List NE} {ys : List (NestedKey × Addr × Value)}, NRel xs ys → NRel (xs.map (fun e => if e.1 = k then (e.1, e.2.1, v) else e)) (ys.map (putAt k u)) := by
    intro xs ys h
    induction h with
    | nil => exact .nil
    | @cons k' b' v' u' xs ys r' _ ih =>
      rw [List.map_cons, List.map_cons]
      unfold putAt
      by_cases z : k' = k
      · rw [if_pos z, if_pos z]
        exact .cons r ih
      · rw [if_neg z, if_neg z]
        exact .cons r' ih
  have a : ∀ {xs : List NE} {ys : List (NestedKey × Addr × Value)}, NRel xs ys → NRel (xs ++ [(k, b, v)]) (ys ++ [(k, b, u)]) := by
    intro xs ys h
    induction h with
    | nil => exact .cons r .nil
    | cons r' _ ih => exact .cons r' ih
  by_cases z : (atN xs k).isSome = true
  · rw [if_pos z, if_pos z]
    exact m h
  · rw [if_neg z, if_neg z]
    exact a h
theorem putN_len (xs : List NE) (k : NestedKey) (b : Addr) (v : V) : (putN xs k b v).length ≤ xs.length + 1 := by
  unfold putN
  split
  · rw [List.length_map]; omega
  · rw [List.length_append]; exact Nat.le_refl _
/-- what the object o of a dict at d tells -/
structure NOk (P : Program) (w : World) (d : Addr) (o : Obj) (xs : List NE) : Prop where
  len : xs.length ≤ sizeLine
  sys : (d == sysModules) = false
  ex : ∃ ys es ep, NRel xs ys ∧ o.ExactDict ∧ o.data = .dict es ep ∧ es.toList = ys.map (entryOfKey (nestedKind P w)) ∧ (ys.map (·.1)).Nodup
/-! keys -/
mutual
inductive Nk (K : PySem.W.Frag) (H : Hp) : V → NestedKey → Prop
  | int (i : Int) : Nk K H (.int i) (.num i)
  | str (z : Str) : Nk K H (.str z) (.text z)
  | tup {a : Addr} {xs : List V} {ks : List NestedKey} : SqT K H a xs → NkL K H xs ks → Nk K H (.ref a) (.tup ks)
inductive NkL (K : PySem.W.Frag) (H : Hp) : List V → List NestedKey → Prop
  | nil : NkL K H [] []
  | cons {v : V} {k : NestedKey} {vs : List V} {ks : List NestedKey} : Nk K H v k → NkL K H vs ks → NkL K H (v :: vs) (k :: ks)
end
section
variable {X : Cx} {pins : List (Addr × Obj)} {σ : L2.St} {H : Hp} {s : Shared}
mutual
theorem Nk.is (I : L2.Inv X pins σ H s) : ∀ (k : NestedKey) (v : V), Nk X.K H v k → ∀ u, RelV v u → NestedIs s.heap k u
  | .num _, _, .int i, u, r => by
    obtain ⟨t, rfl⟩ := r
    exact .int i t
  | .text _, _, .str z, u, r => by
    obtain ⟨t, rfl⟩ := r
    exact .text z t
  | .tup ks, _, .tup sq l, u, r => by
    obtain rfl : u = Value.ref _ := r
    obtain ⟨its, hv, ⟨o, e, c, n, dd⟩, _⟩ := I.tuple sq
    exact .tup e c dd (NkL.is I ks _ l _ (by simpa using hv))
theorem NkL.is (I : L2.Inv X pins σ H s) : ∀ (ks : List NestedKey) (vs : List V), NkL X.K H vs ks → ∀ us, Vals vs us → NestedAll s.heap ks us
  | [], _, .nil, _, .nil => .nil
  | k :: ks, _, .cons a b, _, .cons r rr => .cons (Nk.is I k _ a _ r) (NkL.is I ks _ b _ rr)
end
end
mutual
theorem Nk.tk {K : PySem.W.Frag} {H H' : Hp} (t : ∀ a xs, SqT K H a xs → SqT K H' a xs) : ∀ (k : NestedKey) (v : V), Nk K H v k → Nk K H' v k
  | .num _, _, .int i => .int i
  | .text _, _, .str z => .str z
  | .tup ks, _, .tup sq l => .tup (t _ _ sq) (NkL.tk t ks _ l)
theorem NkL.tk {K : PySem.W.Frag} {H H' : Hp} (t : ∀ a xs, SqT K H a xs → SqT K H' a xs) : ∀ (ks : List NestedKey) (vs : List V), NkL K H vs ks → NkL K H' vs ks
  | [], _, .nil => .nil
  | k :: ks, _, .cons a b => .cons (Nk.tk t k _ a) (NkL.tk t ks _ b)
end
/-- the key k stands at a -/
def NkA (K : PySem.W.Frag) (H : Hp) (a : Addr) (k : NestedKey) : Prop := Nk K H (.ref a) k ∧ k.depth ≤ 8
/-- a dict at d with the entries xs -/
structure DN (P : Program) (w : World) (K : PySem.W.Frag) (H : Hp) (d : Addr) (o : Obj) (xs : List NE) : Prop where
  at_ : H d = some (exO d o)
  ok : NOk P w d o xs
  ks : ∀ e ∈ xs, NkA K H e.2.1 e.1
section
variable {X : Cx} {pins : List (Addr × Obj)} {σ : L2.St} {H : Hp} {s : Shared}
theorem NkA.is (I : L2.Inv X pins σ H s) {a : Addr} {k : NestedKey} (h : NkA X.K H a k) : (nestedKind X.prog X.w).is s.heap k a := ⟨Nk.is I k _ h.1 _ rfl, h.2⟩
theorem DN.h (I : L2.Inv X pins σ H s) {d : Addr} {o : Obj} {xs : List NE} (D : DN X.prog X.w X.K H d o xs) : ∃ ys, NRel xs ys ∧ Heap.DictOfH (nestedKind X.prog X.w) s.heap d ys := by
  obtain ⟨ys, es, ep, r, x, dd, e, nd⟩ := D.ok.ex
  refine ⟨ys, r, o, es, ep, exO_get I.hok D.at_, x, dd, e, fun y m => ?_, nd⟩
  obtain ⟨v, mv⟩ := r.mem m
  exact (D.ks _ mv).is I
theorem nroom {X : Cx} (hu : X.A.units + 64 < cLine) : (nestedKind X.prog X.w).room X.A.in1 := by
  show X.A.units + 1 + 8 < cLine
  omega
end
/-! k in d, k not in d, d[k], d.get(k) -/
def rInN (P : Program) (w : World) (K : PySem.W.Frag) (b : Bool) : R2 := fun x y H Q => ∃ (a d : Addr) (k : NestedKey) (o : Obj) (xs : List NE), x = .ref a ∧ y = .ref d ∧ NkA K H a k ∧ DN P w K H d o xs ∧ Q (.bl (xor b (atN xs k).isSome)) H
theorem op_inN {X : Cx} (hu : X.A.units + 64 < cLine) : OpR X (compareOp .In) (rInN X.prog X.w X.K false) := by
  intro pins s σ H x y v u Q I rx ry h
  obtain ⟨a, d, k, o, xs, rfl, rfl, hk, D, q⟩ := h
  obtain rfl : v = Value.ref a := rx
  obtain rfl : u = Value.ref d := ry
  obtain ⟨ys, r, hd⟩ := D.h I
  refine wpAny_in_heap (nroom hu) (hk.is I) D.ok.sys hd ⟨.bl (atKey ys k).isSome, H, I.tok _, rfl, ?_⟩
  rw [r.some_ k]
  simpa using q
theorem op_notInN {X : Cx} (hu : X.A.units + 64 < cLine) : OpR X (compareOp .NotIn) (rInN X.prog X.w X.K true) := by
  intro pins s σ H x y v u Q I rx ry h
  obtain ⟨a, d, k, o, xs, rfl, rfl, hk, D, q⟩ := h
  obtain rfl : v = Value.ref a := rx
  obtain rfl : u = Value.ref d := ry
  obtain ⟨ys, r, hd⟩ := D.h I
  refine wpAny_notIn_heap (nroom hu) (hk.is I) D.ok.sys hd ⟨.bl (!(atKey ys k).isSome), H, I.tok _, rfl, ?_⟩
  rw [r.some_ k]
  simpa using q
def tNGet (P : Program) (w : World) (K : PySem.W.Frag) (td ty : TE) : TE := fun σ H Q => td σ H fun x H1 => ty σ H1 fun y H2 => ∃ (d a : Addr) (k : NestedKey) (o : Obj) (xs : List NE) (v : V), x = .ref d ∧ y = .ref a ∧ NkA K H2 a k ∧ DN P w K H2 d o xs ∧ atN xs k = some v ∧ Q v H2
theorem pe_nget {X : Cx} {o i : Expr} {pos : Pos} {td ty : TE} (hu : X.A.units + 64 < cLine) (ho : PE X o td) (hi : PE X i ty) (hs : NoSl i) : PE X (o.Subscript i pos) (tNGet X.prog X.w X.K td ty) := by
  refine ⟨fun pins s σ H Q I h => ?_⟩
  refine subD_of PySem.F.slot_dict_getitem.lookup hs (thn (ho.run pins s σ H _ I h) fun u s1 ⟨x, H1, I1, rx, q1⟩ => ?_)
  refine thn (hi.run pins s1 σ H1 _ I1 q1) fun iv s2 ⟨y, H2, I2, ry, d, a, k, ob, xs, v, ex, ey, hk, D, ev, q2⟩ => ?_
  subst ex ey
  obtain rfl : u = Value.ref d := rx
  obtain rfl : iv = Value.ref a := ry
  obtain ⟨ys, r, hd⟩ := D.h I2
  refine ⟨hd.typeIs, ?_⟩
  rcases r.at_ k with ⟨e1, _⟩ | ⟨v', b, u', e1, e2, rv⟩
  · rw [ev] at e1
    cases e1
  · rw [ev] at e1
    cases e1
    exact wpAny_getItem_heap (nroom hu) (hk.is I2) hd e2 ⟨v, H2, I2.tok _, rv, q2⟩
def rGetN (P : Program) (w : World) (K : PySem.W.Frag) : V → List V → Hp → VK → Prop := fun x vs H Q => ∃ (d a : Addr) (k : NestedKey) (o : Obj) (xs : List NE), x = .ref d ∧ vs = [.ref a] ∧ NkA K H a k ∧ DN P w K H d o xs ∧ Q ((atN xs k).getD .non) H
theorem mt_getN {X : Cx} (hu : X.A.units + 64 < cLine) : MtR X "dict.get" (rGetN X.prog X.w X.K) := by
  intro pins s σ H x vs v us Q I rx rv h
  obtain ⟨d, a, k, o, xs, rfl, rfl, hk, D, q⟩ := h
  obtain rfl : v = Value.ref d := rx
  cases rv with
  | cons r0 rr =>
    cases rr
    cases r0
    obtain ⟨ys, r, hd⟩ := D.h I
    refine call_meetsIn PySem.F.slot_dict_get hd.typeIs PySem.F.entry_dict_get (PySem.F.args_dict_get_2 _ _) (meetsH_dict_get (nestedKind X.prog X.w) d a D.ok.sys) ⟨nroom hu, k, ys, hk.is I, hd, ?_⟩
    rcases r.at_ k with ⟨e1, e2⟩ | ⟨v', b, u', e1, e2, rv'⟩
    · rw [e1] at q
      rw [e2]
      exact ⟨.non, H, I.tok _, rfl, q⟩
    · rw [e1] at q
      rw [e2]
      exact ⟨v', H, I.tok _, rv', q⟩
end Ow
/-! a walk of such a dict's keys; {k: v for ..} with such keys -/
namespace Ow
open PySem PySem.Spec PyProof.Rows L2
/-- the keys in their order -/
def Itn (d : Addr) (o : Obj) (xs : List NE) : L2.It where
  go i H := H d = some (exO d o) ∧ i < xs.length
  yld i H x H' := H' = H ∧ ∃ e, xs[i]? = some e ∧ x = .ref e.2.1
  stop i H := H d = some (exO d o) ∧ xs.length ≤ i
theorem walk_keysN {d : Addr} {o : Obj} {xs : List NE} : Walk (Itn d o xs) xs.length (fun H => H d = some (exO d o)) (fun i H x H' => H' = H ∧ ∃ e, xs[i]? = some e ∧ x = .ref e.2.1) := by
  constructor
  · exact fun i H hi g => ⟨g, hi⟩
  · exact fun H g => ⟨g, Nat.le_refl _⟩
  · exact fun i H x H' hi g y => y
theorem NOk.ents {P : Program} {w : World} {d : Addr} {o : Obj} {xs : List NE} (h : NOk P w d o xs) {es : Array DictEntry} {ep : Nat} (e : o.data = .dict es ep) : es.size = xs.length ∧ ∀ (i : Nat) (x : NE), xs[i]? = some x → ∃ en : DictEntry, es[i]? = some en ∧ en.key = Value.ref x.2.1 := by
  obtain ⟨ys, es', ep', r, _, e', el, _⟩ := h.ex
  obtain ⟨rfl, rfl⟩ := dict_ep e' e
  have sz : es.size = ys.length := by rw [← Array.length_toList, el, List.length_map]
  refine ⟨by rw [sz, r.len], fun i x ex => ?_⟩
  obtain ⟨u, eu, _⟩ := r.get ex
  refine ⟨entryOfKey (nestedKind P w) (x.1, x.2.1, u), ?_, rfl⟩
  rw [← Array.getElem?_toList, el, List.getElem?_map, eu]
  rfl
theorem turn_keysN {P : Program} {w : World} {K : PySem.W.Frag} {tg : Expr} {d : Addr} {o : Obj} {es : Array DictEntry} {ep : Nat} {xs : List NE} (ok : NOk P w d o xs) (it : Addr) (hod : o.data = .dict es ep) : Turn P w K tg (Itn d o xs) [it] it fun i h => h.IsKeyIter it d i xs.length ep := by
  obtain ⟨hsz, ent⟩ := ok.ents hod
  refine ⟨List.mem_singleton.mpr rfl, fun i h st b hb => ?_, fun i h h' st k => Heap.IsKeyIter.at st fun oi e => k it (List.mem_singleton.mpr rfl) oi e, ?_, ?_, fun A i s Q E st h => ?_⟩
  · obtain rfl := List.mem_singleton.mp hb
    obtain ⟨oi, e, c, dd⟩ := st
    exact ⟨oi, e, fun v z => by rw [dd] at z; cases z⟩
  · rintro X rfl rfl hK hc i pins s σ H E I hf st ⟨hd, hi⟩
    obtain ⟨f0, f1, f2, f3, f4, f5⟩ := hf it (List.mem_singleton.mpr rfl)
    obtain ⟨en, hen, hkey⟩ := ent i xs[i] (List.getElem?_eq_getElem hi)
    refine next_key_item st (exO_get I.hok hd) hod hsz hen fun h' st' sb => ?_
    have I1 := Inv.turned (t' := s.toks) I (fun b ob hb e => (sb.right b hb).trans e) f0 f1 f3 f4 f5
    obtain ⟨oi, e, c, dd⟩ := id st'
    refine ⟨en.key, rfl, go_of e c dd (by decide) ⟨.ref xs[i].2.1, H, I1, hkey, ⟨rfl, xs[i], List.getElem?_eq_getElem hi, rfl⟩, st', fun b hb => ?_⟩⟩
    exact (hf b hb).1
  · rintro X rfl rfl hK hc i pins s σ H E I hf st ⟨hd, hi⟩
    obtain ⟨f0, f1, f2, f3, f4, f5⟩ := hf it (List.mem_singleton.mpr rfl)
    refine next_key_end (I.ok.hd hc) st (exO_get I.hok hd) hod hsz hi fun h' eb => ?_
    exact ⟨rfl, Inv.turned (t' := s.toks) I (fun b ob hb e => eb b ob hb e) f0 f1 f3 f4 f5⟩
  · refine wpAny_pyIter_slot (Heap.IsKeyIter.typeIs st) PySem.F.slot_dict_keyiterator_iter (wpAny_call_entry PySem.F.slot_dict_keyiterator_iter (Heap.IsKeyIter.typeIs st) PySem.F.entry_dict_keyiterator_iter ?_ (PySem.F.args_dict_keyiterator_iter_1 (Value.ref it)))
    exact wpAny_pure ⟨Value.ref it, rfl, "dict_keyiterator", .builtin "dict_keyiterator.__next__", Heap.IsKeyIter.typeIs st, PySem.F.slot_dict_keyiterator_next.lookup, h⟩
def iKeysN (P : Program) (w : World) (td : TE) : TI := fun σ H R => td σ H fun x H1 => ∃ (d : Addr) (o : Obj) (xs : List NE), x = .ref d ∧ H1 d = some (exO d o) ∧ NOk P w d o xs ∧ R (Itn d o xs) H1
theorem pi_keysN {X : Cx} {tg e : Expr} {td : TE} (he : PE X e td) : PI X tg e (iKeysN X.prog X.w td) := by
  refine ⟨fun pins s σ H R I h => ?_⟩
  refine thn (he.run pins s σ H _ I h) fun u s1 ⟨x, H1, I1, rx, d, o, xs, ex, hd, ok, q⟩ => ?_
  subst ex
  obtain rfl : u = Value.ref d := rx
  obtain ⟨ys, es, ep, r, xd, hod, el, nd⟩ := id ok.ex
  obtain ⟨hsz, _⟩ := ok.ents hod
  refine iter_keys ok.sys (exO_get I1.hok hd) xd hod (pi_one I1 _ (turn_keysN ok s1.heap.objs.size hod) ⟨_, Heap.get?_push_size s1.heap rfl, rfl, ?_⟩ q)
  rw [hsz]
  rfl
/-! the comprehension -/
def tDcN (P : Program) (w : World) (K : PySem.W.Frag) (wi : TI) (g : TG) (tt : TT) (tk tv : TE) (vs : List Nat) : TE := fun σ H Q => wi σ H fun J H1 => ∀ (D : Addr) (o0 : Obj), H1 D = none → NOk P w D o0 [] → ∃ W : Nat → Nat → Hp → Prop, (∃ m, W 0 m (upd H1 D (exO D o0))) ∧ ∀ i m H, W i m H →
  (J.stop i H ∧ Q (.ref D) H) ∨ (J.go i H ∧ ∃ Nx : Hp → Prop, (∀ H', Nx H' → ∃ m', m' < m ∧ W (i + 1) m' H') ∧ ∀ x H', J.yld i H x H' → g x (wipe σ vs) H' fun σ2 H2 => wipe σ2 vs = wipe σ vs ∧ tt σ2 H2 fun b H3 =>
    if b = true then tk σ2 H3 fun y H4 => tv σ2 H4 fun z H5 => ∃ (a : Addr) (k : NestedKey) (o : Obj) (xs : List NE), y = .ref a ∧ NkA K H5 a k ∧ DN P w K H5 D o xs ∧ xs.length < sizeLine ∧ ∀ o', NOk P w D o' (putN xs k a z) → Nx (upd H5 D (exO D o')) else Nx H3)
theorem n_empty {P : Program} {w : World} (h : Heap) (hb : sysModules < h.objs.size) : NOk P w h.objs.size { cls := .type "dict", data := .dict #[] } [] := by
  refine ⟨Nat.zero_le _, ?_, [], #[], 0, .nil, ⟨rfl, rfl, rfl⟩, rfl, rfl, .nil⟩
  exact beq_eq_false_iff_ne.mpr (Nat.ne_of_gt hb)
theorem n_dictSet {X : Cx} {pins : List (Addr × Obj)} {σ : L2.St} {H : Hp} {s : Shared} {E : Value → Shared → Prop} {D a : Addr} {k : NestedKey} {o : Obj} {xs : List NE} {v : V} {r : Value} {Q : Unit → Shared → Prop} (hu : X.A.units + 64 < cLine) (I : L2.Inv X pins σ H s) (hk : NkA X.K H a k) (hD : DN X.prog X.w X.K H D o xs) (hz : xs.length < sizeLine) (rv : RelV v r)
    (h : ∀ s' o', NOk X.prog X.w D o' (putN xs k a v) → L2.Inv X pins σ (upd H D (exO D o')) s' → Q () s') : wpAny (model X.prog X.w) X.A (dictSet D (Value.ref a) r) Q E s := by
  obtain ⟨ys, rl, hd⟩ := hD.h I
  refine wpAny_dictSet_heap (by show X.A.units + 8 < cLine; omega) (hk.is I) hd (fun h' dd' hs => ?_) (by have := rl.len; omega)
  obtain ⟨o', es', ep', e', x', da', el', ks', nd'⟩ := dd'
  refine h _ o' ⟨Nat.le_trans (putN_len _ _ _ _) hz, hD.ok.sys, _, es', ep', rl.put k a rv, x', da', el', nd'⟩ ?_
  exact d_write I (by rw [hD.at_]; exact True.intro) hs ⟨o', e'⟩ (exO_ok e')
end Ow
/-! {k: v for ..}, the keys tuples -/
namespace Ow
open PySem PySem.Spec PyProof.Rows L2
theorem pe_dcN {X : Cx} {kx vx tg iter : Expr} {ifs : List Expr} {scope : Scope} {own : List (Str × Nat)} {pos : Pos} {wi : TI} {g : TG} {tt : TT} {tk tv : TE} (hc : X.calm = true) (hu : X.A.units + 64 < cLine) (hN : X.N.Nodup) (hi : PI X tg iter wi) (ok : BlkOk X.N X.env.scope scope own)
    (hg : ∀ (s : Shared) (H : Hp) (C : Addr) (cl : List (Str × Addr)) (fp : List Addr), PG (X.blk s H scope (compEnvC scope cl C X.env) fp) tg g)
    (ht : ∀ (s : Shared) (H : Hp) (C : Addr) (cl : List (Str × Addr)) (fp : List Addr), PTs (X.blk s H scope (compEnvC scope cl C X.env) fp) ifs tt)
    (hk : ∀ (s : Shared) (H : Hp) (C : Addr) (cl : List (Str × Addr)) (fp : List Addr), PE (X.blk s H scope (compEnvC scope cl C X.env) fp) kx tk)
    (he : ∀ (s : Shared) (H : Hp) (C : Addr) (cl : List (Str × Addr)) (fp : List Addr), PE (X.blk s H scope (compEnvC scope cl C X.env) fp) vx tv)
    (hs : ∀ x : Value, foldedSetIterable iter X.env x = pure x := by intro x; rfl) :
    PE X (.DictComp kx vx [⟨tg, iter, ifs, 0⟩] scope pos) (tDcN X.prog X.w X.K wi g tt tk tv (own.map (·.2))) := by
  refine ⟨fun pins s σ H Q I h => ?_⟩
  rw [arm_eval_DictComp]
  refine wpAny_comprehension_free rfl hs (closure_ok fun y hy e => (ok.free y hy e).elim (fun k => I.ok.has y.1 (.inl k)) fun k => I.ok.has y.1 (.inr k)) ok.kind (fun y hy e => by rw [ok.uniq y hy, e]) ?_
  refine thn (hi.run pins s σ H _ I h) fun xv s1 hx => thn hx fun itv s2 ⟨it, fp, tn, J, H2, e, I2, T, st2, f2, q⟩ => ?_
  subst e
  refine wpAny_newObj_type (newEnv_comp ?_) (by show _ ≤ _; decide)
  have hDn := HOk.fresh I2.hok (Nat.le_refl s2.heap.objs.size)
  obtain ⟨W, ⟨m0, w0⟩, turn⟩ := q s2.heap.objs.size _ hDn (n_empty s2.heap (Inv.big I2))
  have I3 := Inv.laid (t' := s2.toks) (h' := s2.heap.push { cls := .type "dict", data := .dict #[] }) (o := exO s2.heap.objs.size { cls := .type "dict", data := .dict #[] }) I2 (fun b o e => Heap.get?_push_of_some _ e) (Nat.le_refl _) (exO_ok (Heap.get?_push_size s2.heap rfl))
  have sz : ∀ b ∈ fp, b < s2.heap.objs.size := fun b hb => by
    obtain ⟨o, e, _⟩ := T.obj 0 s2.heap st2 b hb
    exact Heap.lt_size e
  have f3 : ∀ b ∈ fp, FpOk X pins (upd H2 s2.heap.objs.size (exO s2.heap.objs.size { cls := .type "dict", data := .dict #[] })) b ∧ b < (s2.heap.push { cls := .type "dict", data := .dict #[] }).objs.size := fun b hb => by
    have hlt := sz b hb
    refine ⟨⟨by rw [upd_ne (Nat.ne_of_lt hlt)]; exact (f2 b hb).1, (f2 b hb).2⟩, ?_⟩
    rw [Heap.size_push]
    exact Nat.lt_succ_of_lt hlt
  have st3 := T.keep 0 s2.heap (s2.heap.push { cls := .type "dict", data := .dict #[] }) st2 fun b x o e => Heap.get?_push_of_some _ e
  have I4 := block_start I3 ok hN f3
  have pg := hg { heap := s2.heap.push { cls := .type "dict", data := .dict #[] }, gens := s2.gens, drawn := s2.drawn, toks := s2.toks, os := s2.os } (upd H2 s2.heap.objs.size (exO s2.heap.objs.size { cls := .type "dict", data := .dict #[] })) (s2.heap.push { cls := .type "dict", data := .dict #[] }).objs.size (cellsFrom ((s2.heap.push { cls := .type "dict", data := .dict #[] }).objs.size + 1) scope.names (cloFrom X.env.cells scope.names [])) fp
  have pt := ht { heap := s2.heap.push { cls := .type "dict", data := .dict #[] }, gens := s2.gens, drawn := s2.drawn, toks := s2.toks, os := s2.os } (upd H2 s2.heap.objs.size (exO s2.heap.objs.size { cls := .type "dict", data := .dict #[] })) (s2.heap.push { cls := .type "dict", data := .dict #[] }).objs.size (cellsFrom ((s2.heap.push { cls := .type "dict", data := .dict #[] }).objs.size + 1) scope.names (cloFrom X.env.cells scope.names [])) fp
  have pk := hk { heap := s2.heap.push { cls := .type "dict", data := .dict #[] }, gens := s2.gens, drawn := s2.drawn, toks := s2.toks, os := s2.os } (upd H2 s2.heap.objs.size (exO s2.heap.objs.size { cls := .type "dict", data := .dict #[] })) (s2.heap.push { cls := .type "dict", data := .dict #[] }).objs.size (cellsFrom ((s2.heap.push { cls := .type "dict", data := .dict #[] }).objs.size + 1) scope.names (cloFrom X.env.cells scope.names [])) fp
  have pe := he { heap := s2.heap.push { cls := .type "dict", data := .dict #[] }, gens := s2.gens, drawn := s2.drawn, toks := s2.toks, os := s2.os } (upd H2 s2.heap.objs.size (exO s2.heap.objs.size { cls := .type "dict", data := .dict #[] })) (s2.heap.push { cls := .type "dict", data := .dict #[] }).objs.size (cellsFrom ((s2.heap.push { cls := .type "dict", data := .dict #[] }).objs.size + 1) scope.names (cloFrom X.env.cells scope.names [])) fp
  have nfp : ∀ b ∈ fp, (upd H2 s2.heap.objs.size (exO s2.heap.objs.size { cls := .type "dict", data := .dict #[] })) b = none := fun b hb => (f3 b hb).1.1
  have st4 := T.keep 0 _ (pushCells ((s2.heap.push { cls := .type "dict", data := .dict #[] }).push { cls := .type "dict", data := .dict #[] }) scope.names) st3 fun b x o e => pushCells_keeps scope.names _ b o (Heap.get?_push_of_some _ e)
  generalize hXB : (X.blk { heap := s2.heap.push { cls := .type "dict", data := .dict #[] }, gens := s2.gens, drawn := s2.drawn, toks := s2.toks, os := s2.os } (upd H2 s2.heap.objs.size (exO s2.heap.objs.size { cls := .type "dict", data := .dict #[] })) scope (compEnvC scope (cellsFrom ((s2.heap.push { cls := .type "dict", data := .dict #[] }).objs.size + 1) scope.names (cloFrom X.env.cells scope.names [])) (s2.heap.push { cls := .type "dict", data := .dict #[] }).objs.size X.env) fp) = XB at I4 pg pt pk pe
  have stat : ∀ {σ' : L2.St} {H' : Hp} {s' : Shared}, L2.Inv XB [] σ' H' s' → (∀ b ∈ fp, H' b = none) → ∀ b ∈ fp, FpOk XB [] H' b := fun {σ' H' s'} I' hn b hb => by
    subst hXB
    exact ⟨hn b hb, (I'.ok.exf b hb).1, I'.ok.exfs b hb, .inl hb, fun x c e => (I'.ok.exf b hb).2 x c e, fun p hp => by
      have z : p ∈ ([] : List (Addr × Obj)) ++ [] := hp
      simp at z⟩
  have loop := compLoop_anyD (prog := X.prog) (w := X.w) (A := X.A) (R := compPost (model X.prog X.w) X.A X.xe none (EP X pins σ Q) (Value.ref s2.heap.objs.size) (s2.heap.push { cls := .type "dict", data := .dict #[] }).objs.size) (kx := kx) (vx := vx) (target := tg) (iter := iter) (ifs := ifs) (scope := scope) (pos := pos) (it := Value.ref it) (D := s2.heap.objs.size) (env := XB.env)
    (fun n s' => ∃ i H', L2.Inv XB [] (wipe σ (own.map (·.2))) H' s' ∧ tn i s'.heap ∧ (∀ b ∈ fp, H' b = none) ∧ W i n H') (fun n s5 ⟨i, H5, I5, st5, n5, w5⟩ => ?step) m0 ⟨0, _, I4, st4, nfp, w0⟩
  case step =>
    rcases turn i n H5 w5 with ⟨stop, qq⟩ | ⟨go, Nx, hNx, step⟩
    · have td := T.done XB (by rw [← hXB]) (by rw [← hXB]) (by rw [← hXB]) (by rw [← hXB]; exact hc) i [] s5 (wipe σ (own.map (·.2))) H5 (fun _ _ => False) I5 (stat I5 n5) st5 stop
      have eA : XB.A = X.A := by rw [← hXB]
      rw [eA] at td
      refine thnF td fun r s6 ⟨hr, I6⟩ => ?_
      subst hr
      subst hXB
      have I7 := Inv.call' I3 I6.os I6.base I6.hok I6.bare fun b hb => ⟨(f3 b hb).1.2.2.2.1, (f3 b hb).1.2.1, (f3 b hb).1.2.2.2.2.1, (f3 b hb).1.2.2.2.2.2⟩
      have nC : H5 (s2.heap.push { cls := .type "dict", data := .dict #[] }).objs.size = none := I6.free
      obtain ⟨m, hn, _⟩ := I6.loc
      obtain ⟨f0, f1, _, f3', f4, f5⟩ := Inv.fpOk I3 (Nat.le_refl _) nC
      exact ⟨m, hn, fun h'' sb => ⟨.ref s2.heap.objs.size, H5, Inv.turned I7 (fun b o hb e => (sb.2 b hb).trans e) f0 f1 f3' f4 f5, rfl, qq⟩⟩
    · have ti := T.item XB (by rw [← hXB]) (by rw [← hXB]) (by rw [← hXB]) (by rw [← hXB]; exact hc) i [] s5 (wipe σ (own.map (·.2))) H5 (fun _ _ => False) I5 (stat I5 n5) st5 go
      have eA : XB.A = X.A := by rw [← hXB]
      rw [eA] at ti
      refine thnF ti fun r s6 ⟨u, hr, h6⟩ => ?_
      subst hr
      refine thnF h6 fun _ s7 ⟨x, H7, I7, r7, y7, st7, n7⟩ => ?_
      have I7' := Inv.pinned I7 (stat I7 n7) (T.obj (i + 1) s7.heap st7)
      have fin : ∀ {s' : Shared} {H' : Hp} {σ8 : L2.St}, wipe σ8 (own.map (·.2)) = wipe σ (own.map (·.2)) → L2.Inv XB ([] ++ pinsAt fp s7.heap) σ8 H' s' → Nx H' → ∃ m, m < n ∧ ∃ i H', L2.Inv XB [] (wipe σ (own.map (·.2))) H' s' ∧ tn i s'.heap ∧ (∀ b ∈ fp, H' b = none) ∧ W i m H' := fun {s' H' σ8} hw8 I' nx => by
        obtain ⟨m', hm, w'⟩ := hNx _ nx
        have pin' : ∀ b ∈ fp, ∀ o, s7.heap.get? b = some o → s'.heap.get? b = some o ∧ H' b = none := fun b hb o e => by
          have z := I'.pin (b, o) (List.mem_append_right _ (List.mem_append_right [] (mem_pinsAt hb e)))
          exact ⟨z.1, z.2.1⟩
        have hl : (wipe σ (own.map (·.2))).length = σ8.length := by rw [← hw8, wipe_length]
        refine ⟨m', hm, i + 1, H', Inv.weak (Inv.unpinned I') hl fun j v e => (wipe_some (by rw [hw8]; exact e)).1, T.keep (i + 1) s7.heap s'.heap st7 fun b hb o e => (pin' b hb o e).1, fun b hb => ?_, w'⟩
        obtain ⟨o, e, _⟩ := T.obj (i + 1) s7.heap st7 b hb
        exact (pin' b hb o e).2
      have hX : X.prog = XB.prog ∧ X.w = XB.w ∧ X.K = XB.K := by rw [← hXB]; exact ⟨rfl, rfl, rfl⟩
      subst hXB
      have hpg := pg.run ([] ++ pinsAt fp s7.heap) s7 (wipe σ (own.map (·.2))) H7 x u _ I7' r7 (step x H7 y7)
      refine thnF hpg fun _ s8 ⟨σ8, H8, I8, hw8, q8⟩ => ?_
      have hpt := pt.run ([] ++ pinsAt fp s7.heap) s8 σ8 H8 _ I8 q8
      refine thnF hpt fun b s9 ⟨H9, I9, q9⟩ => ?_
      cases b with
      | false => exact fin hw8 I9 q9
      | true =>
        have hpk := pk.run ([] ++ pinsAt fp s7.heap) s9 σ8 H9 _ I9 q9
        refine thnF hpk fun z s10 ⟨yk, H10, I10, r10, q10⟩ => ?_
        have hpe := pe.run ([] ++ pinsAt fp s7.heap) s10 σ8 H10 _ I10 q10
        refine thnF hpe fun z2 s11 ⟨yv, H11, I11, r11, a, k, o, xs, ek, ka, dn, hz11, nx⟩ => ?_
        subst ek
        obtain rfl : z = Value.ref a := r10
        exact n_dictSet (X := X.blk _ _ scope _ fp) hu I11 ka dn hz11 r11 fun s12 o' no I12 => fin hw8 I12 (nx o' no)
  subst hXB
  exact codeAny_compStart_dict loop (T.self X.A 0 _ _ _ st4 loop)
end Ow
/-! == and != of two dicts whose values are data at any depth -/
namespace Ow
open PySem PySem.Spec PyProof.Rows L2
structure DEq (K : PySem.W.Frag) (H : Hp) (ka kb : List (Key × V)) (dv du : Key → PyData) : Prop where
  l : ∀ k v, (k, v) ∈ ka → Dp K H v (dv k) ∧ (dv k).canLay0 = true ∧ (dv k).depth ≤ 40
  r : ∀ k v, valV kb k = some v → Dp K H v (du k) ∧ (du k).canLay0 = true
def eqDD (ka kb : List (Key × V)) (dv du : Key → PyData) : Bool := ka.length == kb.length && ka.all fun p => (valV kb p.1).isSome && PyData.eqv (dv p.1) (du p.1)
theorem KV.mem_ {κ : Type} {kvs : List (κ × V)} {vs : List (κ × Value)} (h : KV kvs vs) {k : κ} {u : Value} (m : (k, u) ∈ vs) : ∃ v, (k, v) ∈ kvs ∧ RelV v u := by
  unfold KV at h
  induction h with
  | nil => cases m
  | @cons p q xs ys r _ ih =>
    rcases List.mem_cons.mp m with z | m
    · refine ⟨p.2, ?_, ?_⟩
      · have e : p.1 = k := by rw [r.1, ← z]
        rw [← e]
        exact List.mem_cons_self
      · have e := r.2
        rw [← z] at e
        exact e
    · obtain ⟨v, a, b⟩ := ih m
      exact ⟨v, List.mem_cons_of_mem _ a, b⟩
theorem KV.all_ {κ : Type} {kvs : List (κ × V)} {vs : List (κ × Value)} (h : KV kvs vs) (f : κ → Bool) : (kvs.all fun p => f p.1) = vs.all fun p => f p.1 := by
  unfold KV at h
  induction h with
  | nil => rfl
  | @cons p q xs ys r _ ih => rw [List.all_cons, List.all_cons, ih, r.1]
theorem hits_ {κ : Type} [DecidableEq κ] {A : Around} {s : Shared} {kb : List (κ × Value)} {e : κ → Bool} : ∀ va : List (κ × Value), (∀ k w y, (k, w) ∈ va → valueAt kb k = some y → SeqAt.EqAt A s w y (e k)) → PySem.W.KeqHits A s kb va (va.all fun p => (valueAt kb p.1).isSome && e p.1)
  | [], _ => .nil
  | (k, w) :: r, h => by
    have ih := hits_ r fun k' w' y' m => h k' w' y' (List.mem_cons_of_mem _ m)
    cases z : valueAt kb k with
    | none =>
      rw [show (((k, w) :: r).all fun p => (valueAt kb p.1).isSome && e p.1) = false by rw [List.all_cons]; simp [z]]
      exact .miss z
    | some y =>
      rw [show (((k, w) :: r).all fun p => (valueAt kb p.1).isSome && e p.1) = (e k && r.all fun p => (valueAt kb p.1).isSome && e p.1) by rw [List.all_cons]; simp [z]]
      exact .hit z (h k w y List.mem_cons_self z) ih
def rEqDD (K : PySem.W.Frag) (n : Bool) : R2 := fun x y H Q => ∃ (a b : Addr) (ka kb : List (Key × V)) (dv du : Key → PyData), x = .ref a ∧ y = .ref b ∧ H a = some (.dK ka) ∧ H b = some (.dK kb) ∧ DEq K H ka kb dv du ∧ Q (.bl (xor n (eqDD ka kb dv du))) H
theorem eqDD_val {ka kb : List (Key × V)} {va vb : List (Key × Value)} (ra : KV ka va) (rb : KV kb vb) (dv du : Key → PyData) : (va.length == vb.length && va.all fun p => (valueAt vb p.1).isSome && PyData.eqv (dv p.1) (du p.1)) = eqDD ka kb dv du := by
  have e : ∀ k, (valueAt vb k).isSome = (valV kb k).isSome := fun k => by
    have ro := rb.val k
    cases e1 : valV kb k <;> cases e2 : valueAt vb k <;> rw [e1, e2] at ro <;> first | rfl | exact absurd ro (by simp [RelO])
  have e2 : (fun p : Key × Value => (valueAt vb p.1).isSome && PyData.eqv (dv p.1) (du p.1)) = fun p => (fun k => (valV kb k).isSome && PyData.eqv (dv k) (du k)) p.1 := by
    funext p
    rw [e]
  unfold eqDD
  rw [e2, ← KV.all_ ra (fun k => (valV kb k).isSome && PyData.eqv (dv k) (du k)), ra.length, rb.length]
section
variable {X : Cx} {pins : List (Addr × Obj)} {σ : L2.St} {H : Hp} {s : Shared}
theorem DEq.at_ (I : L2.Inv X pins σ H s) {ka kb : List (Key × V)} {va vb : List (Key × Value)} {dv du : Key → PyData} (ra : KV ka va) (rb : KV kb vb) (D : DEq X.K H ka kb dv du) {A : Around} (hA : A.units + 40 < cLine) : ∀ k w y, (k, w) ∈ va → valueAt vb k = some y → SeqAt.EqAt A s w y (PyData.eqv (dv k) (du k)) := fun k w y m e => by
  obtain ⟨v', m', r'⟩ := KV.mem_ ra m
  obtain ⟨d1, c1, l1⟩ := D.l k v' m'
  have ro := rb.val k
  rw [e] at ro
  cases e2 : valV kb k with
  | none => rw [e2] at ro; exact absurd ro (by simp [RelO])
  | some v2 =>
    rw [e2] at ro
    obtain ⟨d2, c2⟩ := D.r k v2 e2
    obtain ⟨as, r1⟩ := Dp.reads I _ _ _ d1 r'
    obtain ⟨bs, r2⟩ := Dp.reads I _ _ _ d2 ro
    exact SeqAt.eqAt_reads _ _ A s _ _ _ _ r1 r2 c1 c2 (by omega)
end
theorem op_eqDD {X : Cx} (hu : X.A.units + 64 < cLine) : OpR X (compareOp .Eq) (rEqDD X.K false) := by
  intro pins s σ H x y v u Q I rx ry h
  obtain ⟨a, b, ka, kb, dv, du, rfl, rfl, ea, eb, D, q⟩ := h
  obtain rfl : v = Value.ref a := rx
  obtain rfl : u = Value.ref b := ry
  obtain ⟨_, ya, va, ra, da⟩ := dk_of I.hok ea
  obtain ⟨_, yb, vb, rb, db⟩ := dk_of I.hok eb
  refine PySem.W.keq_eq ya yb da db (by omega) (fun _ => hits_ va (D.at_ I ra rb (by show X.A.units + 1 + 40 < cLine; omega))) ⟨.bl (eqDD ka kb dv du), H, I, ?_, by simpa using q⟩
  rw [eqDD_val ra rb]
  rfl
theorem op_neDD {X : Cx} (hu : X.A.units + 64 < cLine) : OpR X (compareOp .NotEq) (rEqDD X.K true) := by
  intro pins s σ H x y v u Q I rx ry h
  obtain ⟨a, b, ka, kb, dv, du, rfl, rfl, ea, eb, D, q⟩ := h
  obtain rfl : v = Value.ref a := rx
  obtain rfl : u = Value.ref b := ry
  obtain ⟨_, ya, va, ra, da⟩ := dk_of I.hok ea
  obtain ⟨_, yb, vb, rb, db⟩ := dk_of I.hok eb
  refine PySem.W.keq_ne ya yb da db (by omega) (fun _ => hits_ va (D.at_ I ra rb (by show X.A.units + 1 + 40 < cLine; omega))) ⟨.bl (!eqDD ka kb dv du), H, I, ?_, by simpa using q⟩
  rw [eqDD_val ra rb]
  rfl
end Ow
namespace K1
open PySem PySem.Spec PyProof.Rows L2 Ow Tlz
abbrev snamed_items : Stmt := topS 9
abbrev Nnamed_items : List Str := ["state", "word"]
theorem scnamed_items : FnScope Nnamed_items ["state", "word"] (defScope snamed_items) := ⟨rfl, rfl, rfl, by decide +kernel, rfl, by decide +kernel, by decide +kernel⟩
abbrev sremove_key : Stmt := topS 10
abbrev Nremove_key : List Str := ["state", "key", "sort", "name", "row", "word"]
theorem scremove_key : FnScope Nremove_key ["state", "key"] (defScope sremove_key) := ⟨rfl, rfl, rfl, by decide +kernel, rfl, by decide +kernel, by decide +kernel⟩
abbrev sremove_fact : Stmt := topS 11
abbrev Nremove_fact : List Str := ["state", "name", "row", "rows"]
theorem scremove_fact : FnScope Nremove_fact ["state", "name", "row"] (defScope sremove_fact) := ⟨rfl, rfl, rfl, by decide +kernel, rfl, by decide +kernel, by decide +kernel⟩
abbrev sforget_facts : Stmt := topS 12
abbrev Nforget_facts : List Str := ["state", "name"]
theorem scforget_facts : FnScope Nforget_facts ["state", "name"] (defScope sforget_facts) := ⟨rfl, rfl, rfl, by decide +kernel, rfl, by decide +kernel, by decide +kernel⟩
section
variable {β : Type}
def dropG (l : List (Str × β)) (k : Str) : List (Str × β) := l.filter fun e => decide (e.1 ≠ k)
theorem kvG_drop (vv : β → V) (l : List (Str × β)) (k : Str) : dropK (kvG vv l) (Sum.inr k) = kvG vv (dropG l k) := by
  unfold dropK kvG dropG
  rw [List.filter_map]
  congr 1
  refine List.filter_congr fun e _ => ?_
  exact decide_eq_decide.mpr (not_congr (inr_iff _ _))
theorem valG_drop (l : List (Str × β)) (k m : Str) : valG (dropG l k) m = if m = k then none else valG l m := by
  induction l with
  | nil =>
    split <;> rfl
  | cons e l ih =>
    unfold dropG at ih ⊢
    rw [List.filter_cons]
    by_cases z : e.1 = k
    · rw [decide_eq_false (by simp [z]), if_neg (by decide), ih]
      by_cases y : m = k
      · rw [if_pos y, if_pos y]
      · rw [if_neg y, if_neg y]
        unfold valG
        rw [List.find?_cons, decide_eq_false (fun w => y (by rw [← w, z]))]
    · rw [decide_eq_true z, if_pos rfl]
      unfold valG at ih ⊢
      rw [List.find?_cons, List.find?_cons]
      by_cases y : e.1 = m
      · rw [decide_eq_true y, if_neg (fun w => z (by rw [y, w]))]
      · rw [decide_eq_false y]
        exact ih
theorem dropG_sub {l : List (Str × β)} {k : Str} {e : Str × β} (h : e ∈ dropG l k) : e ∈ l := (List.mem_filter.mp h).1
theorem dropG_len (l : List (Str × β)) (k : Str) : (dropG l k).length ≤ l.length := List.length_filter_le _ _
theorem dropG_nodup {l : List (Str × β)} {k : Str} (h : (l.map (·.1)).Nodup) : ((dropG l k).map (·.1)).Nodup := (List.Sublist.map _ List.filter_sublist).nodup h
end
section
variable {K : PySem.W.Frag} {C x dr df ds dl : Addr} {Z : Addr → Prop} {H H' : Hp} {R S : Tb} {F : Fb} {L : List (Str × V)} {b : Nat}
theorem StAt.dropR (h : StAt K C Z H x dr df ds dl R F S L b) (n : Str) : StAt K C Z (upd H dr (.dK (kvR (dropG R n)))) x dr df ds dl (dropG R n) F S L b := by
  obtain ⟨⟨dx, ob⟩, r, rt, f, ft, fz, fp, fn, s', st, l, z, ne, nw, ln⟩ := h
  have tk : Tk K H (upd H dr (.dK (kvR (dropG R n)))) := Tk.dK r
  refine ⟨⟨dx, by rw [upd_ne (show x ≠ dr from fun w => z.2.2.2.2 (by rw [w]; exact z.1))]; exact ob⟩, upd_same, fun e m => tk _ _ (rt e (dropG_sub m)), by rw [upd_ne ne.1.symm]; exact f, fun e m => ?_, fz, fp, fn, by rw [upd_ne ne.2.1.symm]; exact s', fun e m => tk _ _ (st e m),
    by rw [upd_ne ne.2.2.1.symm]; exact l, z, ne, none_upd nw, ?_⟩
  · have n1 : e.2.1 ≠ dr := fun w => by
      have := (ft e m).1
      rw [w, r] at this
      cases this
    exact ⟨by rw [upd_ne n1]; exact (ft e m).1, (ft e m).2.1.tk tk, (ft e m).2.2⟩
  · have := dropG_len R n
    omega
theorem StAt.dropS (h : StAt K C Z H x dr df ds dl R F S L b) (n : Str) : StAt K C Z (upd H ds (.dK (kvR (dropG S n)))) x dr df ds dl R F (dropG S n) L b := by
  obtain ⟨⟨dx, ob⟩, r, rt, f, ft, fz, fp, fn, s', st, l, z, ne, nw, ln⟩ := h
  have tk : Tk K H (upd H ds (.dK (kvR (dropG S n)))) := Tk.dK s'
  refine ⟨⟨dx, by rw [upd_ne (show x ≠ ds from fun w => z.2.2.2.2 (by rw [w]; exact z.2.2.1))]; exact ob⟩, by rw [upd_ne ne.2.1]; exact r, fun e m => tk _ _ (rt e m), by rw [upd_ne ne.2.2.2.1]; exact f, fun e m => ?_, fz, fp, fn, upd_same, fun e m => tk _ _ (st e (dropG_sub m)),
    by rw [upd_ne ne.2.2.2.2.2.symm]; exact l, z, ne, none_upd nw, ?_⟩
  · have n1 : e.2.1 ≠ ds := fun w => by
      have := (ft e m).1
      rw [w, s'] at this
      cases this
    exact ⟨by rw [upd_ne n1]; exact (ft e m).1, (ft e m).2.1.tk tk, (ft e m).2.2⟩
  · have := dropG_len S n
    omega
theorem StAt.dropL (h : StAt K C Z H x dr df ds dl R F S L b) (n : Str) : StAt K C Z (upd H dl (.dK (kvG id (dropG L n)))) x dr df ds dl R F S (dropG L n) b := by
  obtain ⟨⟨dx, ob⟩, r, rt, f, ft, fz, fp, fn, s', st, l, z, ne, nw, ln⟩ := h
  have tk : Tk K H (upd H dl (.dK (kvG id (dropG L n)))) := Tk.dK l
  refine ⟨⟨dx, by rw [upd_ne (show x ≠ dl from fun w => z.2.2.2.2 (by rw [w]; exact z.2.2.2.1))]; exact ob⟩, by rw [upd_ne ne.2.2.1]; exact r, fun e m => tk _ _ (rt e m), by rw [upd_ne ne.2.2.2.2.1]; exact f, fun e m => ?_, fz, fp, fn, by rw [upd_ne ne.2.2.2.2.2]; exact s', fun e m => tk _ _ (st e m),
    upd_same, z, ne, none_upd nw, ?_⟩
  · have n1 : e.2.1 ≠ dl := fun w => by
      have := (ft e m).1
      rw [w, l] at this
      cases this
    exact ⟨by rw [upd_ne n1]; exact (ft e m).1, (ft e m).2.1.tk tk, (ft e m).2.2⟩
  · have := dropG_len L n
    omega
theorem StAt.dropF (h : StAt K C Z H x dr df ds dl R F S L b) (n : Str) : StAt K C Z (upd H df (.dK (kvF (dropG F n)))) x dr df ds dl R (dropG F n) S L b := by
  obtain ⟨⟨dx, ob⟩, r, rt, f, ft, fz, fp, fn, s', st, l, z, ne, nw, ln⟩ := h
  have tk : Tk K H (upd H df (.dK (kvF (dropG F n)))) := Tk.dK f
  refine ⟨⟨dx, by rw [upd_ne (show x ≠ df from fun w => z.2.2.2.2 (by rw [w]; exact z.2.1))]; exact ob⟩, by rw [upd_ne ne.1]; exact r, fun e m => tk _ _ (rt e m), upd_same, fun e m => ?_, fun e m => fz e (dropG_sub m), fp.sublist List.filter_sublist, dropG_nodup fn,
    by rw [upd_ne ne.2.2.2.1.symm]; exact s', fun e m => tk _ _ (st e m), by rw [upd_ne ne.2.2.2.2.1.symm]; exact l, z, ne, none_upd nw, ?_⟩
  · have m' := dropG_sub m
    have n1 : e.2.1 ≠ df := fun w => by
      have := (ft e m').1
      rw [w, f] at this
      cases this
    exact ⟨by rw [upd_ne n1]; exact (ft e m').1, (ft e m').2.1.tk tk, (ft e m').2.2⟩
  · have := dropG_len F n
    omega
end
theorem seqIx {k n : Nat} (h : k < n) : seqIndex? (k : Int) n = some k := by
  unfold seqIndex?
  simp
  omega
theorem er_map {α β : Type} (f : α → β) : ∀ (l : List α) (k : Nat), (l.map f).eraseIdx k = (l.eraseIdx k).map f
  | [], k => rfl
  | x :: l, 0 => rfl
  | x :: l, k + 1 => by
    rw [List.map_cons, List.eraseIdx_cons_succ, List.eraseIdx_cons_succ, List.map_cons, er_map f l k]
/-- a row goes -/
def DelF (F : Fb) (n : Str) (row : List V) (F' : Fb) : Prop := (¬ HasRow F n row ∧ F' = F) ∨ ∃ q rs k t, valG F n = some (q, rs) ∧ rs[k]? = some t ∧ t.2 = row ∧ F' = putG F n (q, rs.eraseIdx k)
/-- a name without anything goes -/
def Forg (R : Tb) (F : Fb) (n : Str) (F' : Fb) : Prop := ((valG R n = none ∧ ∃ q, valG F n = some (q, [])) ∧ F' = dropG F n) ∨ (¬ (valG R n = none ∧ ∃ q, valG F n = some (q, [])) ∧ F' = F)
def spDelFact (K : PySem.W.Frag) (C : Addr) : Sp := fun vs H Q _ => ∃ (x r : Addr) (n : Str) (row : List V) (dr df ds dl : Addr) (Z : Addr → Prop) (R S : Tb) (F : Fb) (L : List (Str × V)) (b : Nat), vs = [.ref x, .str n, .ref r] ∧
  StAt K C Z H x dr df ds dl R F S L b ∧ b ≤ 900 ∧ SqT K H r row ∧ (∀ v ∈ row, Scal v) ∧ row.length ≤ 10 ∧ (∀ m q rs, valG F m = some (q, rs) → SrtS rs) ∧
  ∀ F' H', DelF F n row F' → StAt K C Z H' x dr df ds dl R F' S L b → Kp Z H H' → Tk K H H' → Q .non H'
def spForget (K : PySem.W.Frag) (C : Addr) : Sp := fun vs H Q _ => ∃ (x : Addr) (n : Str) (dr df ds dl : Addr) (Z : Addr → Prop) (R S : Tb) (F : Fb) (L : List (Str × V)) (b : Nat), vs = [.ref x, .str n] ∧
  StAt K C Z H x dr df ds dl R F S L b ∧ b ≤ 900 ∧ ∀ F' H', Forg R F n F' → StAt K C Z H' x dr df ds dl R F' S L b → Kp Z H H' → Tk K H H' → Q .non H'
def spNamed (K : PySem.W.Frag) (C : Addr) : Sp := fun vs H Q _ => ∃ (x : Addr) (w : Str) (dr df ds dl : Addr) (Z : Addr → Prop) (R S : Tb) (F : Fb) (L : List (Str × V)) (b : Nat), vs = [.ref x, .str w] ∧
  StAt K C Z H x dr df ds dl R F S L b ∧ Q (.ref (if w = "relation" then dr else if w = "structure" then ds else dl)) H
section
variable {P : Program} {w : World} {K : PySem.W.Frag} {mg : Str → Option Value} {base : Heap} {C : Addr}
theorem ok_delfact {f : Addr} {fd : FuncData} (F0 : Fun K "remove_fact" "remove_fact" sremove_fact f fd) (T : Bl mg) (X : Txt K mg C) (Shas : Kmt P w K mg base C 4 "has" ["self", "relation", "row"] (spHas K C)) (Dplace_of : Kn P w K mg base 3 "place_of" ["rows", "row"] (spPlace K)) :
    FnOk P w K mg base CX0 5 f fd ["state", "name", "row"] (spDelFact K C) := by
  refine F0.ok scremove_fact (fun vs H Q E h => ?_) (fun cdv A outer s H vs Q E hr h => ?_)
  · obtain ⟨x, r, n, row, dr, df, ds, dl, Z, R, S, F, L, b, rfl, _⟩ := h
    rfl
  · obtain ⟨x, r, n, row, dr, df, ds, dl, Z, R, S, F, L, b, rfl, st, lb, hrow, srow, lrow, srt, q⟩ := h
    refine ⟨_, (pss_one (ps_if (pt_val (pe_mt Shas hr (pv 0) (pa_cons (pv 1) (pa_cons (pv 2) pa_nil)))) (pss_cons (ps_set (i := 3) scremove_fact.nd rfl (.inl rfl) (pe_dget (hu_of hr) (pe_fld (pv 0) rfl) (pv 1) (fun _ _ => rfl)))
      (pss_one (ps_delL (pv 3) (pe_kn Dplace_of hr (pa_cons (pv 3) (pa_cons (pv 2) pa_nil)))))) pss_nil)), ?_⟩
    obtain ⟨dx, ob⟩ := st.ob
    refine ⟨_, rfl, x, dx, _, rfl, ob, flds_no _ _ _ _ (by decide +kernel), _, rfl, _, rfl, x, r, n, row, dr, df, ds, dl, Z, R, S, F, L, b, rfl, st, lb, hrow, srow, lrow, srt, fun k H1 hk s1 => ?_⟩
    have st1 := st.same s1
    refine ⟨_, rfl, ?_⟩
    cases k with
    | false =>
      exact iteF (q F H1 (.inl ⟨fun z => Bool.false_ne_true (hk.mpr z), rfl⟩) st1 (Kp.same s1) (Tk.same s1))
    | true =>
      refine iteT ?_
      obtain ⟨l, rs, ev, r0, mr⟩ := hk.mp rfl
      have m1 := valG_mem ev
      obtain ⟨hl, ro, lrs⟩ := st1.ft _ m1
      have hl' : H1 l = some (.lst (rrefs rs)) := hl
      refine ⟨_, rfl, x, C, dx, _, _, rfl, s1 _ _ ob, X.cl, X.nF, flds_f _ _ _ _, _, rfl, df, .ref l, rfl, dgetF (.inl st1.f) ev, ?_⟩
      have sr := srt n l rs ev
      refine ⟨_, rfl, _, rfl, _, rfl, l, r, rs, row, rfl, SqL.of hl', ro, Tk.same s1 _ _ hrow, srow, lrow, by have : rs.length ≤ b := lrs; omega, fun k H2 lk pl s2 => ?_⟩
      obtain ⟨t, et, er⟩ := (place_has sr srow (pl sr.1)).mpr ⟨r0, mr⟩
      have st2 := st1.same s2
      have hk2 : k < rs.length := (List.getElem?_eq_some_iff.mp et).1
      have lb2 : rs.length ≤ b := lrs
      refine ⟨l, rrefs rs, (k : Int), k, rfl, rfl, s2 _ _ hl', by omega, by omega, ?_, ?_⟩
      · unfold rrefs
        rw [List.length_map]
        exact seqIx hk2
      · have e1 : (rrefs rs).eraseIdx k = rrefs (rs.eraseIdx k) := by unfold rrefs; rw [er_map]
        rw [e1]
        have ro2 : RowsOk K H2 (rs.eraseIdx k) := fun u m => (ro.same s2) u (List.mem_of_mem_eraseIdx m)
        obtain ⟨st3, kp3, tk3⟩ := st2.rows ev ro2 (Nat.le_trans (List.length_eraseIdx_le _ _) lb2)
        exact q _ _ (.inr ⟨l, rs, k, t, ev, et, er, rfl⟩) st3 (((Kp.same s1).trans (Kp.same s2)).trans kp3) (((Tk.same s1).trans (Tk.same s2)).trans tk3)
end
end K1
namespace Ow
open PySem PySem.Spec PyProof.Rows L2
theorem pe_cls {X : Cx} {x : Str} {C : Addr} {pos : Pos} (gl : Gl X x) (h : X.mg x = some (.ref C)) (hd : (x == ("__debug__" : Str)) = false := by decide) : PE X (.Name x pos) (tC (.ref C)) := pe_glob (v := .ref C) gl h rfl (hd := hd)
end Ow
namespace K1
open PySem PySem.Spec PyProof.Rows L2 Ow Tlz
def sortWs : List Str := ["relation", "fact", "structure", "layout"]
structure SrtM (K : PySem.W.Frag) (mg : Str → Option Value) (sA : Addr) : Prop where
  g : mg "SORTS" = some (.ref sA)
  ex : ∃ (o : Obj) (its : Array Value) (n : Nat), K.lookup sA = some o ∧ o.cls = .type "tuple" ∧ o.dict = none ∧ o.data = .seq its n ∧ its.size ≤ sizeLine ∧ Vals (sortWs.map V.str) its.toList
theorem SrtM.sq {K : PySem.W.Frag} {mg : Str → Option Value} {sA : Addr} (S : SrtM K mg sA) (H : Hp) : SqT K H sA (sortWs.map V.str) := by
  obtain ⟨o, its, k0, hk, hcl, hdi, hda, hz, hv⟩ := S.ex
  exact .inr ⟨o, its, k0, hk, hcl, hda, hz, hv⟩
theorem SrtM.ty {K : PySem.W.Frag} {mg : Str → Option Value} {sA : Addr} (S : SrtM K mg sA) (H : Hp) : tyV K "tuple" (.ref sA) H := by
  obtain ⟨o, its, k0, hk, hcl, hdi, hda, hz, hv⟩ := S.ex
  exact .inr (.inl ⟨rfl, o, hk, hcl, hdi⟩)
theorem eqv_rnil (rs : List (Addr × List V)) : PyData.eqv (.list (rs.map fun t => rowD t.2)) (.list []) = decide (rs = []) := by
  cases rs with
  | nil => simp [PyData.eqv, PyData.eqvAll]
  | cons t rs => simp [PyData.eqv, PyData.eqvAll]
/-- what remove_key does -/
def RemK (R : Tb) (F : Fb) (S : Tb) (L : List (Str × V)) (s : Nat) (n : Str) (row : List V) (R' : Tb) (F' : Fb) (S' : Tb) (L' : List (Str × V)) : Prop :=
  (s = 1 ∧ (∃ F1, DelF F n row F1 ∧ Forg R F1 n F') ∧ R' = R ∧ S' = S ∧ L' = L) ∨ (s = 0 ∧ R' = dropG R n ∧ Forg (dropG R n) F n F' ∧ S' = S ∧ L' = L) ∨ (s = 2 ∧ S' = dropG S n ∧ Forg R F n F' ∧ R' = R ∧ L' = L) ∨ (s = 3 ∧ L' = dropG L n ∧ Forg R F n F' ∧ R' = R ∧ S' = S)
def spRemKey (K : PySem.W.Frag) (C : Addr) : Sp := fun vs H Q _ => ∃ (x a r : Addr) (s : Nat) (n : Str) (row : List V) (dr df ds dl : Addr) (Z : Addr → Prop) (R S : Tb) (F : Fb) (L : List (Str × V)) (b : Nat), vs = [.ref x, .ref a] ∧
  StAt K C Z H x dr df ds dl R F S L b ∧ b ≤ 900 ∧ SqT K H a [.int (s : Nat), .str n, .ref r] ∧ SqT K H r row ∧ (∀ v ∈ row, Scal v) ∧ row.length ≤ 10 ∧ s < 4 ∧ (s ≠ 1 → row = []) ∧ (∀ m q rs, valG F m = some (q, rs) → SrtS rs) ∧
  ∀ R' F' S' L' H', RemK R F S L s n row R' F' S' L' → StAt K C Z H' x dr df ds dl R' F' S' L' b → Kp Z H H' → Tk K H H' → Q .non H'
section
variable {P : Program} {w : World} {K : PySem.W.Frag} {mg : Str → Option Value} {base : Heap} {C : Addr}
theorem ok_forget {f : Addr} {fd : FuncData} (F0 : Fun K "forget_facts" "forget_facts" sforget_facts f fd) (T : Bl mg) (X : Txt K mg C) :
    FnOk P w K mg base CX0 1 f fd ["state", "name"] (spForget K C) := by
  refine F0.ok scforget_facts (fun vs H Q E h => ?_) (fun cdv A outer s H vs Q E hr h => ?_)
  · obtain ⟨x, n, dr, df, ds, dl, Z, R, S, F, L, b, rfl, _⟩ := h
    rfl
  · obtain ⟨x, n, dr, df, ds, dl, Z, R, S, F, L, b, rfl, st, lb, q⟩ := h
    refine ⟨_, (pss_one (ps_if (PW.pt (pw_and (pt_cmp (pc_dnotin (hu_of hr) (pv 1) (pe_fld (pv 0) rfl))) (pw_and1 (pt_cmpR (op_eqD (hu64 hr)) (pe_dget1 (hu_of hr) (pe_fld (pv 0) rfl) (pv 1) ⟨rfl, rfl, rfl, rfl⟩) (pe_lst pa_nil) (nomark _))))) (pss_one (ps_ddel (pe_fld (pv 0) rfl) (pv 1))) pss_nil)), ?_⟩
    obtain ⟨dx, ob⟩ := st.ob
    refine ⟨_, rfl, _, rfl, x, C, dx, _, _, rfl, ob, X.cl, X.nR, flds_r _ _ _ _, dr, _, rfl, DGet.k (k := Sum.inr n) st.r, _, rfl, ?_⟩
    unfold kvR
    rw [kvG_val]
    cases eR : valG R n with
    | some bR => exact iteF (q F H (.inr ⟨(fun z => by rw [eR] at z; cases z.1), rfl⟩) st (Kp.refl _ _) (Tk.same (Same.refl _)))
    | none =>
      refine iteT ?_
      refine ⟨_, rfl, x, C, dx, _, _, rfl, ob, X.cl, X.nF, flds_f _ _ _ _, df, rfl, .inl ⟨_, .inl st.f⟩, _, rfl, _, DGet.k (k := Sum.inr n) st.f, ?_⟩
      rw [kvF_val]
      refine ⟨sz 0, fun e ne => ?_⟩
      have s1 := Same.new (o := .lst []) ne
      have e1 := upd_same (H := H) (a := e) (o := .lst [])
      generalize (upd H e (.lst [])) = H1 at *
      have st1 := st.same s1
      cases eF : valG F n with
      | none =>
        refine ⟨.none, .list [], .non, .lst (SqL.of e1) .nil, by decide +kernel, by decide +kernel, _, rfl, ?_⟩
        exact iteF (q F H1 (.inr ⟨(fun z => by obtain ⟨_, q', z⟩ := z; rw [eF] at z; cases z), rfl⟩) st1 (Kp.same s1) (Tk.same s1))
      | some bF =>
        obtain ⟨l, rs⟩ := bF
        have m1 := valG_mem eF
        obtain ⟨hl, ro, lrs⟩ := st1.ft _ m1
        have hl' : H1 l = some (.lst (rrefs rs)) := hl
        have ro' : RowsOk K H1 rs := ro
        have lrs' : rs.length ≤ b := lrs
        have gd : Gd 2 (.list (rs.map fun t => rowD t.2)) := Gd.lst (by rw [List.length_map]; omega) fun d m => by
          obtain ⟨t, mt, rfl⟩ := List.mem_map.mp m
          exact Gd.row (ro' t mt).2.1 (by have := (ro' t mt).2.2; omega)
        have hdp : Dp K H1 (.ref l) (.list (rs.map fun t => rowD t.2)) := .lst (SqL.of hl') (rws_dp ro')
        refine ⟨.list (rs.map fun t : Addr × List V => rowD t.2), .list [], hdp, .lst (SqL.of e1) .nil, gd.shaped (by decide), by decide +kernel, _, rfl, ?_⟩
        rw [eqv_rnil]
        by_cases z : rs = []
        · rw [decide_eq_true z]
          refine iteT ?_
          subst z
          refine ⟨_, rfl, x, C, dx, _, _, rfl, s1 _ _ ob, X.cl, X.nF, flds_f _ _ _ _, _, rfl, df, kvF F, Sum.inr n, rfl, st1.f, rfl, by rw [kvF_val, eF]; rfl, ?_⟩
          have ed : dropK (kvF F) (Sum.inr n) = kvF (dropG F n) := kvG_drop _ _ _
          rw [ed]
          exact q _ _ (.inl ⟨⟨eR, l, eF⟩, rfl⟩) (st1.dropF n) ((Kp.same s1).trans (Kp.put st.z.2.1)) ((Tk.same s1).trans (Tk.dK st1.f))
        · rw [decide_eq_false z]
          exact iteF (q F H1 (.inr ⟨(fun y => by obtain ⟨_, q', y⟩ := y; rw [eF] at y; cases y; exact z rfl), rfl⟩) st1 (Kp.same s1) (Tk.same s1))
theorem ok_named {f : Addr} {fd : FuncData} (F0 : Fun K "named_items" "named_items" snamed_items f fd) (X : Txt K mg C) : FnOk P w K mg base CX0 1 f fd ["state", "word"] (spNamed K C) := by
  refine F0.ok scnamed_items (fun vs H Q E h => ?_) (fun cdv A outer s H vs Q E hr h => ?_)
  · obtain ⟨x, n, dr, df, ds, dl, Z, R, S, F, L, b, rfl, _⟩ := h
    rfl
  · obtain ⟨x, n, dr, df, ds, dl, Z, R, S, F, L, b, rfl, st, q⟩ := h
    refine ⟨_, (pss_cons (ps_if (pt_cmpR op_eq (pv 1) pe_str (nomark _)) (pss_one (ps_ret (pe_fld (pv 0) rfl))) pss_nil)
      (pss_cons (ps_if (pt_cmpR op_eq (pv 1) pe_str (nomark _)) (pss_one (ps_ret (pe_fld (pv 0) rfl))) pss_nil)
      (pss_one (ps_ret (pe_fld (pv 0) rfl))))), ?_⟩
    obtain ⟨dx, ob⟩ := st.ob
    refine ⟨_, rfl, rfl, _, rfl, ?_⟩
    by_cases z : n = "relation"
    · rw [if_pos z] at q
      rw [decide_eq_true (by rw [z])]
      refine iteT ?_
      exact ⟨_, rfl, x, C, dx, _, _, rfl, ob, X.cl, X.nR, flds_r _ _ _ _, q⟩
    · rw [if_neg z] at q
      rw [decide_eq_false (fun y => z (V.str.inj y))]
      refine iteF ?_
      refine ⟨_, rfl, rfl, _, rfl, ?_⟩
      by_cases y : n = "structure"
      · rw [if_pos y] at q
        rw [decide_eq_true (by rw [y])]
        exact iteT ⟨_, rfl, x, C, dx, _, _, rfl, ob, X.cl, X.nS, flds_s _ _ _ _, q⟩
      · rw [if_neg y] at q
        rw [decide_eq_false (fun v => y (V.str.inj v))]
        exact iteF ⟨_, rfl, x, C, dx, _, _, rfl, ob, X.cl, X.nL, flds_l _ _ _ _, q⟩
end
end K1
namespace K1
open PySem PySem.Spec PyProof.Rows L2 Ow Tlz
theorem dropG_none {β : Type} {l : List (Str × β)} {n : Str} (h : valG l n = none) : dropG l n = l := List.filter_eq_self.mpr fun e m => decide_eq_true (valG_none h e m)
section
variable {P : Program} {w : World} {K : PySem.W.Frag} {mg : Str → Option Value} {base : Heap} {C : Addr}
theorem ok_remkey {f sA : Addr} {fd : FuncData} (F0 : Fun K "remove_key" "remove_key" sremove_key f fd) (T : Bl mg) (SM : SrtM K mg sA) (Dremove_fact : Kn P w K mg base 5 "remove_fact" ["state", "name", "row"] (spDelFact K C)) (Dforget_facts : Kn P w K mg base 1 "forget_facts" ["state", "name"] (spForget K C)) (Dnamed_items : Kn P w K mg base 1 "named_items" ["state", "word"] (spNamed K C)) :
    FnOk P w K mg base CX0 6 f fd ["state", "key"] (spRemKey K C) := by
  have gSORTS := SM.g
  refine F0.ok scremove_key (fun vs H Q E h => ?_) (fun cdv A outer s0 H vs Q E hr h => ?_)
  · obtain ⟨x, a, r, s, n, row, dr, df, ds, dl, Z, R, S, F, L, b, rfl, _⟩ := h
    rfl
  · obtain ⟨x, a, r, s, n, row, dr, df, ds, dl, Z, R, S, F, L, b, rfl, st, lb, hk, hrow, srow, lrow, ls, hs1, srt, q⟩ := h
    refine ⟨_, (pss_cons (ps_asg (pv 1) (pg_tup rfl (pgs_cons (pg_name (i := 2) scremove_key.nd rfl (.inl rfl)) (pgs_cons (pg_name (i := 3) scremove_key.nd rfl (.inl rfl)) (pgs_cons (pg_name (i := 4) scremove_key.nd rfl (.inl rfl)) pgs_nil)))))
      (pss_cons (ps_set (i := 5) scremove_key.nd rfl (.inl rfl) (pe_ix ix_tup (pe_cls (by rfl) gSORTS) (pv 2) (fun _ _ => rfl)))
      (pss_mid (ps_if (pt_cmpR op_eq (pv 5) pe_str (nomark _)) (pss_one (ps_expr (pe_kn Dremove_fact hr (pa_cons (pv 0) (pa_cons (pv 3) (pa_cons (pv 4) pa_nil)))))) (pss_one (ps_if (pt_cmpR (op_eqD (hu64 hr)) (pv 4) (pe_tup pa_nil) (nomark _)) (pss_one (ps_expr (pe_dpop2 (pe_kn Dnamed_items hr (pa_cons (pv 0) (pa_cons (pv 5) pa_nil))) (pv 3) pe_non ⟨rfl, rfl, rfl, rfl⟩))) pss_nil)))
      (pss_one (ps_expr (pe_kn Dforget_facts hr (pa_cons (pv 0) (pa_cons (pv 3) pa_nil)))))))), ?_⟩
    refine ⟨_, rfl, a, _, rfl, hk, rfl, _, _, rfl, _, _, rfl, _, _, rfl, rfl, ?_⟩
    obtain ⟨wd, ew⟩ : ∃ wd, sortWs[s]? = some wd := ⟨_, List.getElem?_eq_getElem (show s < 4 from ls)⟩
    refine ⟨_, rfl, sA, _, (s : Nat), .str wd, rfl, rfl, SM.sq _, at_of (j := s) rfl (by rw [List.getElem?_map, ew]; rfl), ?_⟩
    refine ⟨fun σ' H' => σ' = [some (.ref x), some (.ref a), some (.int (s : Nat)), some (.str n), some (.ref r), some (.str wd)] ∧ ∃ R1 F1 S1 L1, StAt K C Z H' x dr df ds dl R1 F1 S1 L1 b ∧ (∀ F', Forg R1 F1 n F' → RemK R F S L s n row R1 F' S1 L1) ∧ Kp Z H H' ∧ Tk K H H', ?_, ?_⟩
    · refine ⟨_, rfl, rfl, _, rfl, ?_⟩
      by_cases z : s = 1
      · subst z
        cases ew
        rw [decide_eq_true (by rfl)]
        refine iteT ?_
        refine ⟨_, rfl, _, rfl, _, rfl, x, r, n, row, dr, df, ds, dl, Z, R, S, F, L, b, rfl, st, lb, hrow, srow, lrow, srt, fun F1 H1 d1 st1 kp1 tk1 => ?_⟩
        exact ⟨rfl, R, F1, S, L, st1, fun F' fg => .inl ⟨rfl, ⟨F1, d1, fg⟩, rfl, rfl, rfl⟩, kp1, tk1⟩
      · have er := hs1 z
        subst er
        have nf : ¬ decide (V.str wd = V.str "fact") = true := fun y => by
          have y := V.str.inj (of_decide_eq_true y)
          subst y
          rcases (by omega : s = 0 ∨ s = 2 ∨ s = 3) with z | z | z <;> subst z <;> exact absurd ew (by decide +kernel)
        refine ite2 (fun e => absurd e nf) (fun _ => ?_)
        refine ⟨_, rfl, sz 0, fun t nt => ?_⟩
        have s1 := Same.new (o := .tup []) nt
        have e1 := upd_same (H := H) (a := t) (o := .tup [])
        generalize (upd H t (.tup [])) = H1 at *
        have st1 := st.same s1
        refine ⟨.tuple [], .tuple [], .tup (Tk.same s1 _ _ hrow) .nil, .tup (SqT.of e1) .nil, by decide +kernel, by decide +kernel, _, rfl, ?_⟩
        rw [SeqAt.eqv_refl _ (by decide +kernel)]
        refine iteT ?_
        refine ⟨_, rfl, _, rfl, x, wd, dr, df, ds, dl, Z, R, S, F, L, b, rfl, st1, ?_⟩
        rcases (by omega : s = 0 ∨ s = 2 ∨ s = 3) with z | z | z <;> subst z <;> cases ew
        · refine ⟨dr, rfl, .inl ⟨_, .inl st1.r⟩, _, rfl, kvR R, Sum.inr n, st1.r, rfl, fun v hv => ?_, fun hv => ?_⟩
          · have ed : dropK (kvR R) (Sum.inr n) = kvR (dropG R n) := kvG_drop _ _ _
            rw [ed]
            exact ⟨rfl, _, F, S, L, st1.dropR n, fun F' fg => .inr (.inl ⟨rfl, rfl, fg, rfl, rfl⟩), (Kp.same s1).trans (Kp.put st.z.1), (Tk.same s1).trans (Tk.dK st1.r)⟩
          · have e : valG R n = none := by
              unfold kvR at hv
              rw [kvG_val] at hv
              cases e : valG R n with
              | none => rfl
              | some _ => rw [e] at hv; cases hv
            exact ⟨rfl, R, F, S, L, st1, fun F' fg => .inr (.inl ⟨rfl, (dropG_none e).symm, by rw [dropG_none e]; exact fg, rfl, rfl⟩), Kp.same s1, Tk.same s1⟩
        · refine ⟨ds, rfl, .inl ⟨_, .inl st1.s⟩, _, rfl, kvR S, Sum.inr n, st1.s, rfl, fun v hv => ?_, fun hv => ?_⟩
          · have ed : dropK (kvR S) (Sum.inr n) = kvR (dropG S n) := kvG_drop _ _ _
            rw [ed]
            exact ⟨rfl, R, F, _, L, st1.dropS n, fun F' fg => .inr (.inr (.inl ⟨rfl, rfl, fg, rfl, rfl⟩)), (Kp.same s1).trans (Kp.put st.z.2.2.1), (Tk.same s1).trans (Tk.dK st1.s)⟩
          · have e : valG S n = none := by
              unfold kvR at hv
              rw [kvG_val] at hv
              cases e : valG S n with
              | none => rfl
              | some _ => rw [e] at hv; cases hv
            exact ⟨rfl, R, F, S, L, st1, fun F' fg => .inr (.inr (.inl ⟨rfl, (dropG_none e).symm, fg, rfl, rfl⟩)), Kp.same s1, Tk.same s1⟩
        · refine ⟨dl, rfl, .inl ⟨_, .inl st1.l⟩, _, rfl, kvG id L, Sum.inr n, st1.l, rfl, fun v hv => ?_, fun hv => ?_⟩
          · have ed : dropK (kvG id L) (Sum.inr n) = kvG id (dropG L n) := kvG_drop _ _ _
            rw [ed]
            exact ⟨rfl, R, F, S, _, st1.dropL n, fun F' fg => .inr (.inr (.inr ⟨rfl, rfl, fg, rfl, rfl⟩)), (Kp.same s1).trans (Kp.put st.z.2.2.2.1), (Tk.same s1).trans (Tk.dK st1.l)⟩
          · have e : valG L n = none := by
              rw [kvG_val] at hv
              cases e : valG L n with
              | none => rfl
              | some _ => rw [e] at hv; cases hv
            exact ⟨rfl, R, F, S, L, st1, fun F' fg => .inr (.inr (.inr ⟨rfl, (dropG_none e).symm, fg, rfl, rfl⟩)), Kp.same s1, Tk.same s1⟩
    · rintro σ' H2 ⟨rfl, R1, F1, S1, L1, st2, rem, kp2, tk2⟩
      refine ⟨_, rfl, _, rfl, x, n, dr, df, ds, dl, Z, R1, S1, F1, L1, b, rfl, st2, lb, fun F' H3 fg st3 kp3 tk3 => ?_⟩
      exact q _ _ _ _ _ (rem F' fg) st3 (kp2.trans kp3) (tk2.trans tk3)
end
end K1
namespace K1
open PySem PySem.Spec PyProof.Rows L2 Ow Tlz
/-! what the tables tell when a key goes -/
def rmv (os : Its) (k : Kt) : Its := os.filter fun u => decide (tOrd (te u) k ≠ 0)
theorem rmv_mem {os : Its} {k : Kt} (so : ScI os) (sk : tSc k) {u : Addr × It} : u ∈ rmv os k ↔ u ∈ os ∧ ¬ tEq (te u) k := by
  unfold rmv
  rw [List.mem_filter, decide_eq_true_iff]
  exact ⟨fun z => ⟨z.1, fun w => z.2 ((tOrd_zero (so u z.1) sk).mpr w)⟩, fun z => ⟨z.1, fun w => z.2 ((tOrd_zero (so u z.1) sk).mp w)⟩⟩
theorem rmv_has {os : Its} {k : Kt} (so : ScI os) (sk : tSc k) {i : It} : Has (rmv os k) i ↔ Has os i ∧ ¬ tEq (ier i) k := by
  unfold Has
  constructor
  · rintro ⟨a, m⟩
    obtain ⟨m1, m2⟩ := (rmv_mem so sk).mp m
    exact ⟨⟨a, m1⟩, m2⟩
  · rintro ⟨⟨a, m1⟩, m2⟩
    exact ⟨a, (rmv_mem so sk).mpr ⟨m1, m2⟩⟩
structure FOk (os : Its) (R : Tb) (F : Fb) : Prop where
  f : ∀ n row, (∃ q rs, valG F n = some (q, rs) ∧ ∃ r, (r, row) ∈ rs) ↔ ∃ r, Has os (.fact n r row)
  fn : ∀ n, (valG F n).isSome = true ↔ (∃ c, Has os (.rel n c)) ∨ ∃ r row, Has os (.fact n r row)
  fs : ∀ n q rs, valG F n = some (q, rs) → SrtS rs
  fd : (F.map (·.1)).Nodup
theorem forg_ok {os : Its} {R : Tb} {F F' : Fb} {n : Str} (hr : ∀ m c, (∃ q, valG R m = some (q, c)) ↔ Has os (.rel m c)) (hf : ∀ n row, (∃ q rs, valG F n = some (q, rs) ∧ ∃ r, (r, row) ∈ rs) ↔ ∃ r, Has os (.fact n r row))
    (h1 : ∀ m, m ≠ n → ((valG F m).isSome = true ↔ (∃ c, Has os (.rel m c)) ∨ ∃ r row, Has os (.fact m r row))) (h2 : (∃ c, Has os (.rel n c)) → (valG F n).isSome = true) (fs : ∀ n q rs, valG F n = some (q, rs) → SrtS rs) (fd : (F.map (·.1)).Nodup) (g : Forg R F n F') : FOk os R F' := by
  have none_rel : valG R n = none → ∀ c, ¬ Has os (.rel n c) := fun e c z => by
    obtain ⟨q, z⟩ := (hr n c).mpr z
    rw [e] at z
    cases z
  rcases g with ⟨⟨eR, q, eF⟩, rfl⟩ | ⟨ng, rfl⟩
  · have nof : ∀ r row, ¬ Has os (.fact n r row) := fun r row z => by
      obtain ⟨q', rs, e, r', m⟩ := (hf n row).mpr ⟨r, z⟩
      rw [eF] at e
      cases e
      cases m
    refine ⟨fun m row => ?_, fun m => ?_, fun m q' rs e => ?_, dropG_nodup fd⟩
    · rw [valG_drop]
      by_cases z : m = n
      · rw [if_pos z, z]
        exact ⟨fun ⟨_, _, w, _⟩ => (by cases w), fun ⟨r, w⟩ => absurd w (nof r row)⟩
      · rw [if_neg z]
        exact hf m row
    · rw [valG_drop]
      by_cases z : m = n
      · rw [if_pos z, z]
        refine ⟨fun w => (by cases w), fun w => ?_⟩
        rcases w with ⟨c, w⟩ | ⟨r, row, w⟩
        · exact absurd w (none_rel eR c)
        · exact absurd w (nof r row)
      · rw [if_neg z]
        exact h1 m z
    · rw [valG_drop] at e
      by_cases z : m = n
      · rw [if_pos z] at e
        cases e
      · rw [if_neg z] at e
        exact fs m q' rs e
  · refine ⟨hf, fun m => ?_, fs, fd⟩
    by_cases z : m = n
    · subst z
      constructor
      · intro w
        cases e : valG F' m with
        | none => rw [e] at w; cases w
        | some b =>
          obtain ⟨q, rs⟩ := b
          cases rs with
          | nil =>
            cases eR : valG R m with
            | none => exact absurd ⟨eR, q, e⟩ ng
            | some b => exact .inl ⟨b.2, (hr m b.2).mp ⟨b.1, eR⟩⟩
          | cons t rs =>
            obtain ⟨r, h⟩ := (hf m t.2).mp ⟨q, t :: rs, e, t.1, List.mem_cons_self⟩
            exact .inr ⟨r, t.2, h⟩
      · rintro (w | ⟨r, row, w⟩)
        · exact h2 w
        · obtain ⟨q', rs, e, _⟩ := (hf m row).mpr ⟨r, w⟩
          rw [e]
          rfl
    · exact h1 m z
theorem mem_erase {rs : List (Addr × List V)} (h : SrtS rs) {k : Nat} {t : Addr × List V} (e : rs[k]? = some t) (row : List V) : (∃ r, (r, row) ∈ rs.eraseIdx k) ↔ (∃ r, (r, row) ∈ rs) ∧ row ≠ t.2 := by
  have lt : ∀ {i j : Nat} {u v : Addr × List V}, i < j → rs[i]? = some u → rs[j]? = some v → Rlt u.2 v.2 := fun {i j u v} l eu ev => by
    obtain ⟨pi, ei⟩ := List.getElem?_eq_some_iff.mp eu
    obtain ⟨pj, ej⟩ := List.getElem?_eq_some_iff.mp ev
    have := List.pairwise_iff_getElem.mp h.1 i j pi pj l
    rw [ei, ej] at this
    exact this
  have irr : ∀ {u : Addr × List V}, u ∈ rs → ¬ Rlt u.2 u.2 := fun {u} m w => rlt_asym (h.2 _ m) (h.2 _ m) w w
  constructor
  · rintro ⟨r, m⟩
    obtain ⟨i, hi⟩ := List.mem_iff_getElem?.mp m
    refine ⟨⟨r, List.mem_of_mem_eraseIdx m⟩, fun z => ?_⟩
    rw [List.getElem?_eraseIdx] at hi
    split at hi
    · rename_i l
      have := lt l hi e
      rw [show (r, row).2 = t.2 from z] at this
      exact irr (List.mem_of_getElem? e) this
    · rename_i l
      have := lt (show k < i + 1 by omega) e hi
      rw [show (r, row).2 = t.2 from z] at this
      exact irr (List.mem_of_getElem? e) this
  · rintro ⟨⟨r, m⟩, ne⟩
    obtain ⟨i, hi⟩ := List.mem_iff_getElem?.mp m
    refine ⟨r, ?_⟩
    rcases Nat.lt_trichotomy i k with l | l | l
    · refine List.mem_of_getElem? (i := i) ?_
      rw [List.getElem?_eraseIdx, if_pos l]
      exact hi
    · subst l
      rw [hi] at e
      cases e
      exact absurd rfl ne
    · refine List.mem_of_getElem? (i := i - 1) ?_
      rw [List.getElem?_eraseIdx, if_neg (by omega)]
      rw [show i - 1 + 1 = i by omega]
      exact hi
theorem er_srt {rs : List (Addr × List V)} (h : SrtS rs) (k : Nat) : SrtS (rs.eraseIdx k) := ⟨List.Pairwise.sublist (List.eraseIdx_sublist rs k) h.1, fun t m => h.2 t (List.mem_of_mem_eraseIdx m)⟩
section
variable {os : Its} {R S R' S' : Tb} {F F' : Fb} {L L' : List (Str × V)}
theorem Rep.rem {s : Nat} {n : Str} {row : List V} (h : Rep os R F S L) (so : ScI os) (sr : ∀ x ∈ row, Scal x) (hs : s ≠ 1 → row = []) (g : RemK R F S L s n row R' F' S' L') : Rep (rmv os ((s : Nat), n, row, [])) R' F' S' L' := by
  have sk : tSc ((s : Int), n, row, []) := sr
  have hm := fun i => rmv_has (k := ((s : Int), n, row, [])) so sk (i := i)
  have eq0 : ∀ {a b : Prop}, ¬ b → (a ↔ a ∧ ¬ b) := fun nb => ⟨fun x => ⟨x, nb⟩, fun x => x.1⟩
  rcases g with ⟨rfl, ⟨F1, d1, fg⟩, rfl, rfl, rfl⟩ | ⟨rfl, rfl, fg, rfl, rfl⟩ | ⟨rfl, rfl, fg, rfl, rfl⟩ | ⟨rfl, rfl, fg, rfl, rfl⟩
  · -- a fact
    have hr : ∀ m c, (∃ q, valG R' m = some (q, c)) ↔ Has (rmv os (((1 : Nat) : Int), n, row, [])) (.rel m c) := fun m c => by
      rw [hm, h.r m c]
      exact eq0 fun z => absurd z.1 (by show ¬ ((0 : Int) = 1); decide)
    have hf : ∀ m rw', (∃ q rs, valG F1 m = some (q, rs) ∧ ∃ r, (r, rw') ∈ rs) ↔ ∃ r, Has (rmv os (((1 : Nat) : Int), n, row, [])) (.fact m r rw') := fun m rw' => by
      have e1 : (∃ r, Has (rmv os (((1 : Nat) : Int), n, row, [])) (.fact m r rw')) ↔ (∃ r, Has os (.fact m r rw')) ∧ ¬ (m = n ∧ rw' = row) := by
        constructor
        · rintro ⟨r, z⟩
          rw [hm] at z
          exact ⟨⟨r, z.1⟩, fun w => z.2 ⟨rfl, w.1, w.2⟩⟩
        · rintro ⟨⟨r, z⟩, w⟩
          exact ⟨r, (hm _).mpr ⟨z, fun y => w ⟨y.2.1, y.2.2⟩⟩⟩
      rw [e1, ← h.f m rw']
      rcases d1 with ⟨nh, rfl⟩ | ⟨q, rs, k, t, ev, et, er, rfl⟩
      · refine ⟨fun z => ⟨z, fun w => nh ?_⟩, fun z => z.1⟩
        obtain ⟨q, rs, a, b⟩ := z
        rw [w.1, w.2] at *
        exact ⟨q, rs, a, b⟩
      · rw [valG_put]
        by_cases z : m = n
        · rw [if_pos z]
          subst z
          have me := mem_erase (h.fs _ _ _ ev) et rw'
          constructor
          · rintro ⟨q', rs', e, w⟩
            cases e
            obtain ⟨w1, w2⟩ := me.mp w
            exact ⟨⟨q, rs, ev, w1⟩, fun y => w2 (by rw [y.2, er])⟩
          · rintro ⟨⟨q', rs', e, w⟩, y⟩
            rw [ev] at e
            cases e
            exact ⟨q, _, rfl, me.mpr ⟨w, fun u => y ⟨rfl, by rw [u, er]⟩⟩⟩
        · rw [if_neg z]
          exact ⟨fun w => ⟨w, fun y => z y.1⟩, fun w => w.1⟩
    have hs1 : ∀ m, (valG F1 m).isSome = (valG F m).isSome := fun m => by
      rcases d1 with ⟨nh, rfl⟩ | ⟨q, rs, k, t, ev, et, er, rfl⟩
      · rfl
      · rw [valG_put]
        by_cases z : m = n
        · rw [if_pos z, z, ev]; rfl
        · rw [if_neg z]
    have fs1 : ∀ m q rs, valG F1 m = some (q, rs) → SrtS rs := fun m q' rs' e => by
      rcases d1 with ⟨nh, rfl⟩ | ⟨q, rs, k, t, ev, et, er, rfl⟩
      · exact h.fs _ _ _ e
      · rw [valG_put] at e
        by_cases z : m = n
        · rw [if_pos z] at e
          cases e
          exact er_srt (h.fs _ _ _ ev) k
        · rw [if_neg z] at e
          exact h.fs _ _ _ e
    have fd1 : (F1.map (·.1)).Nodup := by
      rcases d1 with ⟨nh, rfl⟩ | ⟨q, rs, k, t, ev, et, er, rfl⟩
      · exact h.fd
      · exact putG_nodup h.fd
    have rel_iff : ∀ m, (∃ c, Has (rmv os (((1 : Nat) : Int), n, row, [])) (.rel m c)) ↔ ∃ c, Has os (.rel m c) := fun m => exists_congr fun c => by
      rw [hm]
      exact (eq0 fun z => absurd z.1 (by show ¬ ((0 : Int) = 1); decide)).symm
    have fo := forg_ok (n := n) hr hf (fun m z => by
      rw [hs1, h.fn m, rel_iff]
      refine or_congr Iff.rfl (exists_congr fun r => exists_congr fun rw' => ?_)
      rw [hm]
      exact eq0 fun y => z y.2.1) (fun w => by rw [hs1]; exact (h.fn n).mpr (.inl ((rel_iff n).mp w))) fs1 fd1 fg
    refine ⟨hr, fun m c => ?_, fun m v => ?_, fo.f, fo.fn, fo.fs, h.rn, h.sn, h.ln, fo.fd⟩
    · rw [hm, h.s m c]
      exact eq0 fun z => absurd z.1 (by show ¬ ((2 : Int) = 1); decide)
    · rw [hm, h.l m v]
      exact eq0 fun z => absurd z.1 (by show ¬ ((3 : Int) = 1); decide)
  all_goals have hs := hs (by decide)
  all_goals subst hs
  · -- a relation
    have hr : ∀ m c, (∃ q, valG (dropG R n) m = some (q, c)) ↔ Has (rmv os (((0 : Nat) : Int), n, [], [])) (.rel m c) := fun m c => by
      rw [hm, ← h.r m c, valG_drop]
      by_cases z : m = n
      · rw [if_pos z]
        exact ⟨fun ⟨_, w⟩ => (by cases w), fun w => absurd ⟨rfl, z, rfl⟩ w.2⟩
      · rw [if_neg z]
        exact eq0 fun w => z w.2.1
    have fact_iff : ∀ m r rw', Has (rmv os (((0 : Nat) : Int), n, [], [])) (.fact m r rw') ↔ Has os (.fact m r rw') := fun m r rw' => by
      rw [hm]
      exact (eq0 fun z => absurd z.1 (by show ¬ ((1 : Int) = 0); decide)).symm
    have fo := forg_ok (n := n) hr (fun m rw' => by rw [h.f m rw']; exact exists_congr fun r => (fact_iff m r rw').symm) (fun m z => by
      rw [h.fn m]
      refine or_congr (exists_congr fun c => ?_) (exists_congr fun r => exists_congr fun rw' => (fact_iff m r rw').symm)
      rw [hm]
      exact eq0 fun y => z y.2.1) (fun ⟨c, w⟩ => (h.fn n).mpr (.inl ⟨c, ((hm _).mp w).1⟩)) h.fs h.fd fg
    refine ⟨hr, fun m c => ?_, fun m v => ?_, fo.f, fo.fn, fo.fs, dropG_nodup h.rn, h.sn, h.ln, fo.fd⟩
    · rw [hm, h.s m c]
      exact eq0 fun z => absurd z.1 (by show ¬ ((2 : Int) = 0); decide)
    · rw [hm, h.l m v]
      exact eq0 fun z => absurd z.1 (by show ¬ ((3 : Int) = 0); decide)
  · -- a structure
    have hr : ∀ m c, (∃ q, valG R' m = some (q, c)) ↔ Has (rmv os (((2 : Nat) : Int), n, [], [])) (.rel m c) := fun m c => by
      rw [hm, h.r m c]
      exact eq0 fun z => absurd z.1 (by show ¬ ((0 : Int) = 2); decide)
    have fact_iff : ∀ m r rw', Has (rmv os (((2 : Nat) : Int), n, [], [])) (.fact m r rw') ↔ Has os (.fact m r rw') := fun m r rw' => by
      rw [hm]
      exact (eq0 fun z => absurd z.1 (by show ¬ ((1 : Int) = 2); decide)).symm
    have rel_iff : ∀ m c, Has (rmv os (((2 : Nat) : Int), n, [], [])) (.rel m c) ↔ Has os (.rel m c) := fun m c => by
      rw [hm]
      exact (eq0 fun z => absurd z.1 (by show ¬ ((0 : Int) = 2); decide)).symm
    have fo := forg_ok (n := n) hr (fun m rw' => by rw [h.f m rw']; exact exists_congr fun r => (fact_iff m r rw').symm) (fun m z => by
      rw [h.fn m]
      exact or_congr (exists_congr fun c => (rel_iff m c).symm) (exists_congr fun r => exists_congr fun rw' => (fact_iff m r rw').symm)) (fun ⟨c, w⟩ => (h.fn n).mpr (.inl ⟨c, (rel_iff n c).mp w⟩)) h.fs h.fd fg
    refine ⟨hr, fun m c => ?_, fun m v => ?_, fo.f, fo.fn, fo.fs, h.rn, dropG_nodup h.sn, h.ln, fo.fd⟩
    · rw [hm, ← h.s m c, valG_drop]
      by_cases z : m = n
      · rw [if_pos z]
        exact ⟨fun ⟨_, w⟩ => (by cases w), fun w => absurd ⟨rfl, z, rfl⟩ w.2⟩
      · rw [if_neg z]
        exact eq0 fun w => z w.2.1
    · rw [hm, h.l m v]
      exact eq0 fun z => absurd z.1 (by show ¬ ((3 : Int) = 2); decide)
  · -- a layout
    have hr : ∀ m c, (∃ q, valG R' m = some (q, c)) ↔ Has (rmv os (((3 : Nat) : Int), n, [], [])) (.rel m c) := fun m c => by
      rw [hm, h.r m c]
      exact eq0 fun z => absurd z.1 (by show ¬ ((0 : Int) = 3); decide)
    have fact_iff : ∀ m r rw', Has (rmv os (((3 : Nat) : Int), n, [], [])) (.fact m r rw') ↔ Has os (.fact m r rw') := fun m r rw' => by
      rw [hm]
      exact (eq0 fun z => absurd z.1 (by show ¬ ((1 : Int) = 3); decide)).symm
    have rel_iff : ∀ m c, Has (rmv os (((3 : Nat) : Int), n, [], [])) (.rel m c) ↔ Has os (.rel m c) := fun m c => by
      rw [hm]
      exact (eq0 fun z => absurd z.1 (by show ¬ ((0 : Int) = 3); decide)).symm
    have fo := forg_ok (n := n) hr (fun m rw' => by rw [h.f m rw']; exact exists_congr fun r => (fact_iff m r rw').symm) (fun m z => by
      rw [h.fn m]
      exact or_congr (exists_congr fun c => (rel_iff m c).symm) (exists_congr fun r => exists_congr fun rw' => (fact_iff m r rw').symm)) (fun ⟨c, w⟩ => (h.fn n).mpr (.inl ⟨c, (rel_iff n c).mp w⟩)) h.fs h.fd fg
    refine ⟨hr, fun m c => ?_, fun m v => ?_, fo.f, fo.fn, fo.fs, h.rn, h.sn, dropG_nodup h.ln, fo.fd⟩
    · rw [hm, h.s m c]
      exact eq0 fun z => absurd z.1 (by show ¬ ((2 : Int) = 3); decide)
    · rw [hm, ← h.l m v, valG_drop]
      by_cases z : m = n
      · rw [if_pos z]
        exact ⟨fun w => (by cases w), fun w => absurd ⟨rfl, z, rfl⟩ w.2⟩
      · rw [if_neg z]
        exact eq0 fun w => z w.2.1
end
end K1
namespace K1
open PySem PySem.Spec PyProof.Rows L2 Ow Tlz
abbrev sState_change : Stmt := inClass (topS 13) 4
abbrev NState_change : List Str := ["self", "changes", "made", "word", "told"]
theorem scState_change : FnScope NState_change ["self", "changes"] (defScope sState_change) := ⟨rfl, rfl, rfl, by decide +kernel, rfl, by decide +kernel, by decide +kernel⟩
theorem er_val {F F' : Fb} (e : erF F' = erF F) (n : Str) : (valG F' n).map (·.2) = (valG F n).map (·.2) := by
  have a := valG_map (fun b : Addr × List (Addr × List V) => b.2) F' n
  have b := valG_map (fun b : Addr × List (Addr × List V) => b.2) F n
  rw [← a, ← b]
  exact congrArg (fun z => valG z n) e
theorem er_some {F F' : Fb} (e : erF F' = erF F) {n : Str} {q : Addr} {rs : List (Addr × List V)} (h : valG F' n = some (q, rs)) : ∃ q', valG F n = some (q', rs) := by
  have z := er_val e n
  rw [h] at z
  cases w : valG F n with
  | none => rw [w] at z; cases z
  | some b =>
    rw [w] at z
    obtain ⟨q2, rs2⟩ := b
    have z : rs = rs2 := Option.some.inj z
    exact ⟨q2, by rw [z]⟩
theorem Rep.er {os : Its} {R S : Tb} {F F' : Fb} {L : List (Str × V)} (h : Rep os R F S L) (e : erF F' = erF F) : Rep os R F' S L := by
  refine ⟨h.r, h.s, h.l, fun n row => ?_, fun n => ?_, fun n q rs w => ?_, h.rn, h.sn, h.ln, ?_⟩
  · rw [← h.f n row]
    constructor
    · rintro ⟨q, rs, a, b⟩
      obtain ⟨q', a'⟩ := er_some e a
      exact ⟨q', rs, a', b⟩
    · rintro ⟨q, rs, a, b⟩
      obtain ⟨q', a'⟩ := er_some e.symm a
      exact ⟨q', rs, a', b⟩
  · rw [← h.fn n]
    have z := congrArg Option.isSome (er_val e n)
    rw [Option.isSome_map, Option.isSome_map] at z
    rw [z]
  · obtain ⟨q', a'⟩ := er_some e w
    exact h.fs n q' rs a'
  · have z := congrArg (List.map (·.1)) e
    unfold erF at z
    rw [List.map_map, List.map_map] at z
    have z2 : F'.map (·.1) = F.map (·.1) := z
    rw [z2]
    exact h.fd
/-- a change -/
inductive Chg where
  | comes (t : Addr × It)
  | goes (s : Nat) (n : Str) (row : List V)
def chgK (s : Nat) (n : Str) (row : List V) : Kt := ((s : Nat), n, row, [])
def stepC (os : Its) : Chg → Its
  | .comes t => plc os t
  | .goes s n row => rmv os (chgK s n row)
def ChgAt (K : PySem.W.Frag) (H : Hp) (x : V) : Chg → Prop
  | .comes t => ∃ a, x = .ref a ∧ SqT K H a [.str "comes", .ref t.1] ∧ ItG K H t.1 t.2
  | .goes s n row => ∃ a k r, x = .ref a ∧ SqT K H a [.str "goes", .ref k] ∧ SqT K H k [.int (s : Nat), .str n, .ref r] ∧ SqT K H r row ∧ (∀ y ∈ row, Scal y) ∧ row.length ≤ 10 ∧ s < 4 ∧ (s ≠ 1 → row = []) ∧ Pr n
theorem ChgAt.tk {K : PySem.W.Frag} {H H' : Hp} {x : V} {c : Chg} (t : Tk K H H') (h : ChgAt K H x c) : ChgAt K H' x c := by
  cases c with
  | comes u => obtain ⟨a, e, h1, h2⟩ := h; exact ⟨a, e, t _ _ h1, h2.tk t⟩
  | goes s n row => obtain ⟨a, k, r, e, h1, h2, h3, h4⟩ := h; exact ⟨a, k, r, e, t _ _ h1, t _ _ h2, t _ _ h3, h4⟩
def ChgsAt (K : PySem.W.Frag) (H : Hp) (xs : List V) (cs : List Chg) : Prop := xs.length = cs.length ∧ ∀ (i : Nat) (x : V) (c : Chg), xs[i]? = some x → cs[i]? = some c → ChgAt K H x c
theorem ChgsAt.tk {K : PySem.W.Frag} {H H' : Hp} {xs : List V} {cs : List Chg} (t : Tk K H H') (h : ChgsAt K H xs cs) : ChgsAt K H' xs cs := ⟨h.1, fun i x c e f => (h.2 i x c e f).tk t⟩
theorem ItG.sc {K : PySem.W.Frag} {H : Hp} {t : Addr × It} (h : ItG K H t.1 t.2) : tSc (te t) := (ItsG.one h).sc t (List.mem_singleton.mpr rfl)
theorem step_sc {K : PySem.W.Frag} {H : Hp} {x : V} {os : Its} {c : Chg} (so : ScI os) (h : ChgAt K H x c) : ScI (stepC os c) := by
  cases c with
  | comes t =>
    obtain ⟨a, e, h1, h2⟩ := h
    intro u m
    rcases (plc_mem so h2.sc).mp m with z | z
    · rw [z]; exact h2.sc
    · exact so u z.1
  | goes s n row => exact fun u m => so u (List.mem_filter.mp m).1
def spChange (K : PySem.W.Frag) (C : Addr) : Sp := fun vs H Q _ => ∃ (x cl dr df ds dl : Addr) (Z : Addr → Prop) (R S : Tb) (F : Fb) (L : List (Str × V)) (b : Nat) (xs : List V) (cs : List Chg) (os : Its), vs = [.ref x, .ref cl] ∧ StAt K C Z H x dr df ds dl R F S L b ∧ b ≤ 300 ∧ Rep os R F S L ∧ ScI os ∧ SqL K H cl xs ∧ ChgsAt K H xs cs ∧ cs.length ≤ 100 ∧
  ∀ (x' dr' df' ds' dl' : Addr) (R' S' : Tb) (F' : Fb) (L' : List (Str × V)) H', Same H H' → H x' = none → StAt K C (fun a => H a = none ∧ a ≠ x') H' x' dr' df' ds' dl' R' F' S' L' 400 → Rep (cs.foldl stepC os) R' F' S' L' → ScI (cs.foldl stepC os) → Q (.ref x') H'
section
variable {P : Program} {w : World} {K : PySem.W.Frag} {mg : Str → Option Value} {base : Heap} {C : Addr}
theorem ok_change {f : Addr} {fd : FuncData} (F0 : Fun K "change" "State.change" sState_change f fd) (T : Bl mg) (X : Txt K mg C) (Scopy : Kmt P w K mg base C 8 "copy" ["self"] (spCopy K C)) (Dput_item : Kn P w K mg base 5 "put_item" ["state", "item"] (spPutItem K C)) (Dremove_key : Kn P w K mg base 6 "remove_key" ["state", "key"] (spRemKey K C)) :
    FnOk P w K mg base CX0 9 f fd ["self", "changes"] (spChange K C) := by
  refine F0.ok scState_change (fun vs H Q E h => ?_) (fun cdv A outer s0 H vs Q E hr h => ?_)
  · obtain ⟨x, cl, dr, df, ds, dl, Z, R, S, F, L, b, xs, cs, os, rfl, _⟩ := h
    rfl
  · obtain ⟨x, cl, dr, df, ds, dl, Z, R, S, F, L, b, xs, cs, os, rfl, st, hb, rep, so, hcl, ch, lc, q⟩ := h
    refine ⟨_, (pss_cons (ps_set (i := 2) scState_change.nd rfl (.inl rfl) (pe_mt0 Scopy hr (pv 0)))
      (pss_cons (ps_for PassesOwn.never rfl (pi_list (pv 1)) (pg_tup rfl (pgs_cons (pg_name (i := 3) scState_change.nd rfl (.inl rfl)) (pgs_cons (pg_name (i := 4) scState_change.nd rfl (.inl rfl)) pgs_nil))) (pss_one (ps_if (pt_cmpR op_eq (pv 3) pe_str (nomark _)) (pss_one (ps_expr (pe_kn Dput_item hr (pa_cons (pv 2) (pa_cons (pv 4) pa_nil))))) (pss_one (ps_expr (pe_kn Dremove_key hr (pa_cons (pv 2) (pa_cons (pv 4) pa_nil))))))))
      (pss_one (ps_ret (pv 2))))), ?_⟩
    obtain ⟨dx, ob⟩ := st.ob
    refine ⟨_, rfl, x, dx, _, rfl, ob, flds_no _ _ _ _ (by decide +kernel), x, dr, df, ds, dl, Z, R, S, F, L, b, rfl, st, hb, fun x' dr' df' ds' dl' F' H1 s1 nx' er st1 => ?_⟩
    have lx := ch.1
    have rep1 := rep.er er
    refine ⟨_, rfl, cl, rfl, ⟨_, s1.seq hcl⟩, for_list (K := K) (a := cl) (xs := xs) (fun i σ H4 => ∃ (y3 y4 : Option V) (R4 S4 : Tb) (F4 : Fb) (L4 : List (Str × V)), σ = [some (.ref x), some (.ref cl), some (.ref x'), y3, y4] ∧ Same H H4 ∧ StAt K C (fun a => H a = none ∧ a ≠ x') H4 x' dr' df' ds' dl' R4 F4 S4 L4 (300 + i) ∧ Rep ((cs.take i).foldl stepC os) R4 F4 S4 L4 ∧ ScI ((cs.take i).foldl stepC os))
      ⟨none, none, R, S, F', L, rfl, s1, st1, rep1, so⟩ (fun i σ H4 _ hP => ?_) (fun i y σ H4 hi hP => ?_) (fun σ H4 hP => ?_)⟩
    · obtain ⟨_, _, _, _, _, _, _, s4, _⟩ := hP
      exact s4.seq hcl
    · obtain ⟨y3, y4, R4, S4, F4, L4, rfl, s4, st4, rep4, so4⟩ := hP
      have il : i < cs.length := by have := (List.getElem?_eq_some_iff.mp hi).1; omega
      have ec : cs[i]? = some cs[i] := List.getElem?_eq_getElem il
      generalize cs[i] = c at ec
      have ca := (ch.2 i y c hi ec).tk (Tk.same s4)
      have et : (cs.take (i + 1)).foldl stepC os = stepC ((cs.take i).foldl stepC os) c := by
        rw [List.take_add_one, ec, List.foldl_append]
        rfl
      have so5 := step_sc so4 ca
      have keep : ∀ {H5 : Hp}, Kp (fun a => H a = none ∧ a ≠ x') H4 H5 → Same H H5 := fun {H5} kp a o e => kp a o (fun z => by
        have z' : H a = none ∧ a ≠ x' := z
        rw [e] at z'
        cases z'.1) (s4 a o e)
      cases c with
      | comes t =>
        obtain ⟨a, rfl, h1, h2⟩ := ca
        refine ⟨a, _, rfl, h1, rfl, _, _, rfl, _, _, rfl, rfl, ?_⟩
        refine ⟨_, rfl, rfl, _, rfl, ite2 (fun _ => ?_) (fun e => absurd (decide_eq_true rfl) e)⟩
        refine ⟨_, rfl, _, rfl, x', t.1, t.2, dr', df', ds', dl', _, R4, S4, F4, L4, 300 + i, rfl, st4, by omega, h2.at_, fun R5 F5 S5 L5 H5 pu st5 kp5 tk5 => ?_⟩
        refine ⟨_, _, R5, S5, F5, L5, rfl, keep kp5, st5, ?_, ?_⟩
        · rw [et]
          exact rep4.put pu so4 h2.sc
        · rw [et]
          exact so5
      | goes s n row =>
        obtain ⟨a, k, r, rfl, h1, h2, h3, h4, h5, h6, h7, h8⟩ := ca
        refine ⟨a, _, rfl, h1, rfl, _, _, rfl, _, _, rfl, rfl, ?_⟩
        refine ⟨_, rfl, rfl, _, rfl, ite2 (fun e => absurd e (by decide +kernel)) (fun _ => ?_)⟩
        refine ⟨_, rfl, _, rfl, x', k, r, s, n, row, dr', df', ds', dl', _, R4, S4, F4, L4, 300 + i, rfl, st4, by omega, h2, h3, h4, h5, h6, h7, rep4.fs, fun R5 F5 S5 L5 H5 rm st5 kp5 tk5 => ?_⟩
        refine ⟨_, _, R5, S5, F5, L5, rfl, keep kp5, st5.up (by omega), ?_, ?_⟩
        · rw [et]
          exact rep4.rem so4 h4 h7 rm
        · rw [et]
          exact so5
    · obtain ⟨y3, y4, R4, S4, F4, L4, rfl, s4, st4, rep4, so4⟩ := hP
      rw [lx, List.take_length] at rep4 so4
      exact ⟨_, rfl, q x' dr' df' ds' dl' R4 S4 F4 L4 H4 s4 nx' (st4.up (by omega)) rep4 so4⟩
end
end K1
namespace K1
open PySem PySem.Spec PyProof.Rows L2 Ow Tlz
abbrev skey_of : Stmt := topS 4
abbrev Nkey_of : List Str := ["item", "word"]
theorem sckey_of : FnScope Nkey_of ["item"] (defScope skey_of) := ⟨rfl, rfl, rfl, by decide +kernel, rfl, by decide +kernel, by decide +kernel⟩
abbrev sState_same_schema : Stmt := inClass (topS 13) 5
abbrev NState_same_schema : List Str := ["self", "other"]
theorem scState_same_schema : FnScope NState_same_schema ["self", "other"] (defScope sState_same_schema) := ⟨rfl, rfl, rfl, by decide +kernel, rfl, by decide +kernel, by decide +kernel⟩
def wdI : It → Str
  | .rel _ _ => "relation"
  | .fact _ _ _ => "fact"
  | .str _ _ => "structure"
  | .lay _ _ => "layout"
def soI : It → Nat
  | .rel _ _ => 0
  | .fact _ _ _ => 1
  | .str _ _ => 2
  | .lay _ _ => 3
theorem so_at (i : It) : sortWs[soI i]? = some (wdI i) := by cases i <;> rfl
theorem so_min (i : It) : ∀ m, m < soI i → sortWs[m]? ≠ some (wdI i) := by
  cases i
  · exact (by decide +kernel : ∀ m, m < 0 → sortWs[m]? ≠ some ("relation" : Str))
  · exact (by decide +kernel : ∀ m, m < 1 → sortWs[m]? ≠ some ("fact" : Str))
  · exact (by decide +kernel : ∀ m, m < 2 → sortWs[m]? ≠ some ("structure" : Str))
  · exact (by decide +kernel : ∀ m, m < 3 → sortWs[m]? ≠ some ("layout" : Str))
theorem so_ier (i : It) : (ier i).1 = ((soI i : Nat) : Int) := by cases i <;> rfl
def spKeyOf (K : PySem.W.Frag) : Sp := fun vs H Q _ => ∃ (a : Addr) (i : It), vs = [.ref a] ∧ ItG K H a i ∧ Mak H Q fun y H' => KeyAt K H' y (ier i).1 (ier i).2.1 (ier i).2.2.1
section
variable {P : Program} {w : World} {K : PySem.W.Frag} {mg : Str → Option Value} {base : Heap}
theorem ok_keyof {f sA : Addr} {fd : FuncData} (F0 : Fun K "key_of" "key_of" skey_of f fd) (T0 : Bl mg) (SM : SrtM K mg sA) : FnOk P w K mg base CX0 1 f fd ["item"] (spKeyOf K) := by
  have gSORTS := SM.g
  refine F0.ok sckey_of (fun vs H Q E h => ?_) (fun cdv A outer s0 H vs Q E hr h => ?_)
  · obtain ⟨a, i, rfl, _⟩ := h
    rfl
  · obtain ⟨a, i, rfl, hi, q⟩ := h
    refine ⟨_, (pss_cons (ps_set (i := 1) sckey_of.nd rfl (.inl rfl) (pe_ix ix_tup (pv 0) pe_int (fun _ _ => rfl)))
      (pss_cons (ps_if (pt_cmpR op_eq (pv 1) pe_str (nomark _)) (pss_one (ps_ret (pe_tup (pa_cons (pe_bm PySem.F.plainAttrs_tuple PySem.F.slot_tuple_index PySem.F.type_tuple_index mt_tup_index (pe_cls (by rfl) gSORTS) (pa_cons (pv 1) pa_nil)) (pa_cons (pe_ix ix_tup (pv 0) pe_int (fun _ _ => rfl)) (pa_cons (pe_ix ix_tup (pv 0) pe_int (fun _ _ => rfl)) pa_nil)))))) pss_nil)
      (pss_one (ps_ret (pe_tup (pa_cons (pe_bm PySem.F.plainAttrs_tuple PySem.F.slot_tuple_index PySem.F.type_tuple_index mt_tup_index (pe_cls (by rfl) gSORTS) (pa_cons (pv 1) pa_nil)) (pa_cons (pe_ix ix_tup (pv 0) pe_int (fun _ _ => rfl)) (pa_cons (pe_tup pa_nil) pa_nil)))))))), ?_⟩
    have hat := hi.at_
    have sa := so_at i
    have sm := so_min i
    cases i with
    | fact n r row =>
      obtain ⟨h1, h2, h3, h4⟩ := hat
      refine ⟨_, rfl, a, _, 0, .str "fact", rfl, rfl, h1, at_of (j := 0) rfl rfl, ?_⟩
      refine ⟨_, rfl, rfl, _, rfl, ite2 (fun _ => ?_) (fun e => absurd (decide_eq_true rfl) e)⟩
      refine ⟨SM.ty _, _, rfl, sA, sortWs, _, 1, rfl, rfl, SM.sq _, sa, sm, _, rfl, a, _, 1, .str n, rfl, rfl, h1, at_of (j := 1) rfl rfl, _, rfl, a, _, 2, .ref r, rfl, rfl, h1, at_of (j := 2) rfl rfl, sz 3, fun p np => ?_⟩
      exact q _ _ ⟨p, r, rfl, SqT.of upd_same, Tk.same (Same.new np) _ _ h2, hi.n, h3, Nat.le_trans h4 (by decide)⟩ (Same.new np)
    | rel n c =>
      refine ⟨_, rfl, a, _, 0, .str "relation", rfl, rfl, hat, at_of (j := 0) rfl rfl, ?_⟩
      refine ⟨_, rfl, rfl, _, rfl, ite2 (fun e => absurd e (by decide +kernel)) (fun _ => ?_)⟩
      refine ⟨SM.ty _, _, rfl, sA, sortWs, _, 0, rfl, rfl, SM.sq _, sa, sm, _, rfl, a, _, 1, .str n, rfl, rfl, hat, at_of (j := 1) rfl rfl, sz 0, fun t nt => ⟨sz 3, fun p np => ?_⟩⟩
      exact q _ _ ⟨p, t, rfl, SqT.of upd_same, SqT.of (Same.new np _ _ upd_same), hi.n, (fun _ m => nomatch m), Nat.zero_le _⟩ ((Same.new nt).trans (Same.new np))
    | str n c =>
      refine ⟨_, rfl, a, _, 0, .str "structure", rfl, rfl, hat, at_of (j := 0) rfl rfl, ?_⟩
      refine ⟨_, rfl, rfl, _, rfl, ite2 (fun e => absurd e (by decide +kernel)) (fun _ => ?_)⟩
      refine ⟨SM.ty _, _, rfl, sA, sortWs, _, 2, rfl, rfl, SM.sq _, sa, sm, _, rfl, a, _, 1, .str n, rfl, rfl, hat, at_of (j := 1) rfl rfl, sz 0, fun t nt => ⟨sz 3, fun p np => ?_⟩⟩
      exact q _ _ ⟨p, t, rfl, SqT.of upd_same, SqT.of (Same.new np _ _ upd_same), hi.n, (fun _ m => nomatch m), Nat.zero_le _⟩ ((Same.new nt).trans (Same.new np))
    | lay n v =>
      refine ⟨_, rfl, a, _, 0, .str "layout", rfl, rfl, hat, at_of (j := 0) rfl rfl, ?_⟩
      refine ⟨_, rfl, rfl, _, rfl, ite2 (fun e => absurd e (by decide +kernel)) (fun _ => ?_)⟩
      refine ⟨SM.ty _, _, rfl, sA, sortWs, _, 3, rfl, rfl, SM.sq _, sa, sm, _, rfl, a, _, 1, .str n, rfl, rfl, hat, at_of (j := 1) rfl rfl, sz 0, fun t nt => ⟨sz 3, fun p np => ?_⟩⟩
      exact q _ _ ⟨p, t, rfl, SqT.of upd_same, SqT.of (Same.new np _ _ upd_same), hi.n, (fun _ m => nomatch m), Nat.zero_le _⟩ ((Same.new nt).trans (Same.new np))
end
end K1
namespace K1
open PySem PySem.Spec PyProof.Rows L2 Ow Tlz
theorem dcn_it {P : Program} {w0 : World} {K : PySem.W.Frag} {J : L2.It} {n : Nat} {G : Hp → Prop} {Y : Nat → Hp → V → Hp → Prop} (w : Walk J n G Y) {g : TG} {tt : TT} {tk tv : TE} {vs : List Nat} {σ : L2.St} {H1 : Hp} {D : Addr} {o0 : Obj} {Qd : Hp → Prop} (Pv : Nat → Hp → Prop) (h0 : Pv 0 (upd H1 D (exO D o0))) (hG : ∀ i H, i ≤ n → Pv i H → G H)
    (hs : ∀ i x H H', i < n → Pv i H → Y i H x H' → g x (wipe σ vs) H' fun σ2 H2 => wipe σ2 vs = wipe σ vs ∧ tt σ2 H2 fun b H3 =>
      if b = true then tk σ2 H3 fun y H4 => tv σ2 H4 fun z H5 => ∃ (a : Addr) (k : NestedKey) (o : Obj) (xs : List NE), y = .ref a ∧ NkA K H5 a k ∧ DN P w0 K H5 D o xs ∧ xs.length < sizeLine ∧ ∀ o', NOk P w0 D o' (putN xs k a z) → Pv (i + 1) (upd H5 D (exO D o')) else Pv (i + 1) H3) (hd : ∀ H, Pv n H → Qd H) :
    ∃ W : Nat → Nat → Hp → Prop, (∃ m, W 0 m (upd H1 D (exO D o0))) ∧ ∀ i m H, W i m H →
      (J.stop i H ∧ Qd H) ∨ (J.go i H ∧ ∃ Nx : Hp → Prop, (∀ H', Nx H' → ∃ m', m' < m ∧ W (i + 1) m' H') ∧ ∀ x H', J.yld i H x H' → g x (wipe σ vs) H' fun σ2 H2 => wipe σ2 vs = wipe σ vs ∧ tt σ2 H2 fun b H3 =>
        if b = true then tk σ2 H3 fun y H4 => tv σ2 H4 fun z H5 => ∃ (a : Addr) (k : NestedKey) (o : Obj) (xs : List NE), y = .ref a ∧ NkA K H5 a k ∧ DN P w0 K H5 D o xs ∧ xs.length < sizeLine ∧ ∀ o', NOk P w0 D o' (putN xs k a z) → Nx (upd H5 D (exO D o')) else Nx H3) := by
  refine ⟨fun i m H => m = n - i ∧ i ≤ n ∧ Pv i H, ⟨n, by simp, Nat.zero_le _, h0⟩, ?_⟩
  rintro i m H ⟨rfl, hi, p⟩
  have q := hG i H hi p
  by_cases hlt : i < n
  · refine .inr ⟨w.goes i H hlt q, Pv (i + 1), fun H' p' => ⟨n - (i + 1), by omega, rfl, hlt, p'⟩, fun x H' y => hs i x H H' hlt p (w.yields i H x H' hlt q y)⟩
  · have e : i = n := by omega
    subst e
    exact .inl ⟨w.stops H q, hd H p⟩
/-! an item's key -/
def nkv : V → NestedKey
  | .int i => .num i
  | .str z => .text z
  | _ => .none
def nkT (s : Int) (n : Str) (row : List V) : NestedKey := .tup [.num s, .text n, .tup (row.map nkv)]
def nkI (i : It) : NestedKey := nkT (ier i).1 (ier i).2.1 (ier i).2.2.1
theorem nkv_depth : ∀ row : List V, (∀ x ∈ row, Scal x) → NestedKey.depthAll (row.map nkv) ≤ 1
  | [], _ => by simp [NestedKey.depthAll]
  | x :: row, h => by
    have ih := nkv_depth row fun y m => h y (List.mem_cons_of_mem _ m)
    rcases h x List.mem_cons_self with ⟨i, rfl, _⟩ | ⟨z, rfl, _⟩
    · rw [List.map_cons]
      simp only [nkv, NestedKey.depthAll, NestedKey.depth]
      omega
    · rw [List.map_cons]
      simp only [nkv, NestedKey.depthAll, NestedKey.depth]
      omega
theorem nkv_nk {K : PySem.W.Frag} {H : Hp} : ∀ {row : List V}, (∀ x ∈ row, Scal x) → NkL K H row (row.map nkv)
  | [], _ => .nil
  | x :: row, h => by
    have ih := nkv_nk (K := K) (H := H) (row := row) fun y m => h y (List.mem_cons_of_mem _ m)
    rcases h x List.mem_cons_self with ⟨i, rfl, _⟩ | ⟨z, rfl, _⟩
    · exact .cons (.int i) ih
    · exact .cons (.str z) ih
theorem KeyAt.nk {K : PySem.W.Frag} {H : Hp} {p : Addr} {s : Int} {n : Str} {row : List V} (h : KeyAt K H (.ref p) s n row) : NkA K H p (nkT s n row) := by
  obtain ⟨a, r, e, h1, h2, h3, h4, h5⟩ := h
  cases e
  refine ⟨.tup h1 (.cons (.int s) (.cons (.str n) (.cons (.tup h2 (nkv_nk h4)) .nil))), ?_⟩
  have := nkv_depth row h4
  simp only [nkT, NestedKey.depth, NestedKey.depthAll]
  omega
theorem nkv_inj : ∀ {xs ys : List V}, (∀ x ∈ xs, Scal x) → (∀ y ∈ ys, Scal y) → xs.map nkv = ys.map nkv → xs = ys
  | [], [], _, _, _ => rfl
  | [], _ :: _, _, _, e => by cases e
  | _ :: _, [], _, _, e => by cases e
  | x :: xs, y :: ys, h, g, e => by
    rw [List.map_cons, List.map_cons] at e
    have t := nkv_inj (fun z m => h z (List.mem_cons_of_mem _ m)) (fun z m => g z (List.mem_cons_of_mem _ m)) (List.cons.inj e).2
    have e1 := (List.cons.inj e).1
    rcases h x List.mem_cons_self with ⟨i, rfl, _⟩ | ⟨z, rfl, _⟩ <;> rcases g y List.mem_cons_self with ⟨j, rfl, _⟩ | ⟨z', rfl, _⟩ <;> simp only [nkv] at e1
    · rw [NestedKey.num.inj e1, t]
    · cases e1
    · cases e1
    · rw [NestedKey.text.inj e1, t]
theorem nkI_iff {i j : It} (si : ∀ x ∈ (ier i).2.2.1, Scal x) (sj : ∀ x ∈ (ier j).2.2.1, Scal x) : nkI i = nkI j ↔ tEq (ier i) (ier j) := by
  unfold nkI nkT tEq
  constructor
  · intro e
    have e := NestedKey.tup.inj e
    obtain ⟨e1, e⟩ := List.cons.inj e
    obtain ⟨e2, e⟩ := List.cons.inj e
    obtain ⟨e3, _⟩ := List.cons.inj e
    exact ⟨NestedKey.num.inj e1, NestedKey.text.inj e2, nkv_inj si sj (NestedKey.tup.inj e3)⟩
  · rintro ⟨e1, e2, e3⟩
    rw [e1, e2, e3]
/-- a new key is put behind the others -/
theorem putN_new {xs : List NE} {k : NestedKey} {b : Addr} {v : V} (h : ∀ e ∈ xs, e.1 ≠ k) : putN xs k b v = xs ++ [(k, b, v)] := by
  have e : atN xs k = none := by
    unfold atN
    rw [List.find?_eq_none.mpr fun x m => by simpa using h x m]
    rfl
  unfold putN
  rw [e]
  rfl
theorem atN_of {xs : List NE} {k : NestedKey} (nd : (xs.map (·.1)).Nodup) {e : NE} (m : e ∈ xs) (ek : e.1 = k) : atN xs k = some e.2.2 := by
  induction xs with
  | nil => cases m
  | cons x xs ih =>
    rw [List.map_cons, List.nodup_cons] at nd
    unfold atN
    rw [List.find?_cons]
    rcases List.mem_cons.mp m with z | m
    · rw [← z, decide_eq_true ek]
      rfl
    · have ne : x.1 ≠ k := fun w => nd.1 (by rw [w, ← ek]; exact List.mem_map.mpr ⟨e, m, rfl⟩)
      rw [decide_eq_false ne]
      exact ih nd.2 m
theorem atN_none {xs : List NE} {k : NestedKey} (h : ∀ e ∈ xs, e.1 ≠ k) : atN xs k = none := by
  unfold atN
  rw [List.find?_eq_none.mpr fun x m => by simpa using h x m]
  rfl
end K1
namespace K1
open PySem PySem.Spec PyProof.Rows L2 Ow Tlz
/-! an item's whole data -/
def fvW : Fv → Str
  | .rel _ _ _ => "relation"
  | .fact _ _ => "fact"
  | .str _ _ _ _ _ => "structure"
  | .lay _ _ => "layout"
def fvN : Fv → Str
  | .rel n _ _ => n
  | .fact n _ => n
  | .str n _ _ _ _ => n
  | .lay n _ => n
def fvFull : Fv → PyData
  | .fact n row => .tuple [.str "fact", .str n, rowD row]
  | v => .tuple (.str (fvW v) :: .str (fvN v) :: fvD v)
theorem pw4 (w : Str) (h : w = "relation" ∨ w = "fact" ∨ w = "structure" ∨ w = "layout") : Pr w := by
  rcases h with rfl | rfl | rfl | rfl <;> decide +kernel
theorem fv_full {K : PySem.W.Frag} {H : Hp} {a : Addr} {i : It} {v : Fv} (h : ItAt K H a i) (o : FvOk v) (hi : FvIt K H i v) : Dp K H (.ref a) (fvFull v) ∧ Gd 2 (fvFull v) := by
  have d1 := hi.dp
  obtain ⟨gd, gl⟩ := fvD_gd o
  have two : ∀ {w n : Str} {ds : List PyData}, Pr w → Pr n → (∀ d ∈ ds, Gd 1 d) → ds.length ≤ 10 → Gd 2 (.tuple (.str w :: .str n :: ds)) := fun {w n ds} p1 p2 h l => by
    refine Gd.tup (k := 1) (by rw [List.length_cons, List.length_cons]; omega) fun d m => ?_
    rcases List.mem_cons.mp m with z | m
    · rw [z]; exact (Gd.str p1).up (by omega)
    · rcases List.mem_cons.mp m with z | m
      · rw [z]; exact (Gd.str p2).up (by omega)
      · exact h d m
  cases v with
  | rel n cs r =>
    cases i <;> (try exact hi.elim)
    obtain ⟨rfl, _⟩ := hi
    exact ⟨.tup h (.cons (.str _) (.cons (.str _) d1)), two (pw4 _ (.inl rfl)) o.1.1 gd gl⟩
  | str n rn cs b s =>
    cases i <;> (try exact hi.elim)
    obtain ⟨rfl, _⟩ := hi
    exact ⟨.tup h (.cons (.str _) (.cons (.str _) d1)), two (pw4 _ (.inr (.inr (.inl rfl)))) o.1.1 gd gl⟩
  | lay n cs =>
    cases i <;> (try exact hi.elim)
    obtain ⟨rfl, _⟩ := hi
    exact ⟨.tup h (.cons (.str _) (.cons (.str _) d1)), two (pw4 _ (.inr (.inr (.inr rfl)))) o.1.1 gd gl⟩
  | fact n row =>
    cases i <;> (try exact hi.elim)
    obtain ⟨rfl, rfl⟩ := hi
    obtain ⟨h1, h2, h3, h4⟩ := h
    refine ⟨.tup h1 (.cons (.str _) (.cons (.str _) (.cons (.tup h2 (sc_dp h3)) .nil))), ?_⟩
    refine Gd.tup (by show 3 ≤ 1000; decide) fun d m => ?_
    simp only [List.mem_cons, List.not_mem_nil, or_false] at m
    rcases m with z | z | z
    · rw [z]; exact (Gd.str (pw4 _ (.inr (.inl rfl)))).up (by omega)
    · rw [z]; exact (Gd.str o.1.1).up (by omega)
    · rw [z]; exact Gd.row h3 (by omega)
/-! two lists in the order of keys, twins both ways -/
theorem twl_of {K : PySem.W.Frag} {H : Hp} : ∀ {A B : Its}, KSrt A → KSrt B → ScI A → ScI B → (∀ a ∈ A, ∃ b ∈ B, Tw K H a b) → (∀ b ∈ B, ∃ a ∈ A, Tw K H a b) → Twl K H A B
  | [], [], _, _, _, _, _, _ => .nil
  | [], b :: B, _, _, _, _, _, h => by obtain ⟨a, m, _⟩ := h b List.mem_cons_self; cases m
  | a :: A, [], _, _, _, _, h, _ => by obtain ⟨b, m, _⟩ := h a List.mem_cons_self; cases m
  | a :: A, b :: B, kA, kB, sA, sB, h, g => by
    obtain ⟨kA1, kA2⟩ := List.pairwise_cons.mp kA
    obtain ⟨kB1, kB2⟩ := List.pairwise_cons.mp kB
    have lt_tw : ∀ {t u t' u' : Addr × It}, Tw K H t u → Tw K H t' u' → tLt (te t) (te t') → tLt (te u) (te u') := fun {t u t' u'} w w' l => by
      have e := w.ord w'
      unfold tLt at l ⊢
      omega
    have sa := sA a List.mem_cons_self
    have sb := sB b List.mem_cons_self
    have tab : Tw K H a b := by
      obtain ⟨b', mb, wb⟩ := h a List.mem_cons_self
      rcases List.mem_cons.mp mb with z | mb
      · rw [z] at wb; exact wb
      · obtain ⟨a', ma, wa⟩ := g b List.mem_cons_self
        rcases List.mem_cons.mp ma with z | ma
        · rw [z] at wa; exact wa
        · have l1 := kB1 b' mb
          have l2 := lt_tw wa.symm wb.symm l1
          exact (tLt_asym sa (sA a' (List.mem_cons_of_mem _ ma)) (kA1 a' ma) l2).elim
    refine .cons tab (twl_of kA2 kB2 (fun u m => sA u (List.mem_cons_of_mem _ m)) (fun u m => sB u (List.mem_cons_of_mem _ m)) (fun a' ma => ?_) fun b' mb => ?_)
    · obtain ⟨b', mb, wb⟩ := h a' (List.mem_cons_of_mem _ ma)
      rcases List.mem_cons.mp mb with z | mb
      · subst z
        exact (tLt_irr sb (lt_tw tab wb (kA1 a' ma))).elim
      · exact ⟨b', mb, wb⟩
    · obtain ⟨a', ma, wa⟩ := g b' (List.mem_cons_of_mem _ mb)
      rcases List.mem_cons.mp ma with z | ma
      · subst z
        exact (tLt_irr sa (lt_tw tab.symm wa.symm (kB1 b' mb))).elim
      · exact ⟨a', ma, wa⟩
/-! equal data is an equal value -/
theorem eqv_strs : ∀ cs ds : List Str, PyData.eqvAll (cs.map PyData.str) (ds.map PyData.str) = true → cs = ds
  | [], [], _ => rfl
  | [], d :: ds, h => by rw [List.map_nil, List.map_cons, eqv_nc] at h; cases h
  | c :: cs, [], h => by rw [List.map_nil, List.map_cons, eqv_cn] at h; cases h
  | c :: cs, d :: ds, h => by
    rw [List.map_cons, List.map_cons, eqv_cons, eqv_str, Bool.and_eq_true] at h
    rw [eqv_strs cs ds h.2, beq_iff_eq.mp h.1]
theorem nat_eqv {a b : Nat} (h : (((a : Nat) : Int) == ((b : Nat) : Int)) = true) : a = b := by
  have := beq_iff_eq.mp h
  omega
theorem full_inj {v w : Fv} (ov : FvOk v) (ow : FvOk w) (h : PyData.eqv (fvFull v) (fvFull w) = true) : v = w := by
  have hw : fvW v = fvW w ∧ fvN v = fvN w := by
    cases v <;> cases w <;> simp only [fvFull, eqv_tup, eqv_cons, eqv_str, Bool.and_eq_true] at h <;> exact ⟨beq_iff_eq.mp h.1, beq_iff_eq.mp h.2.1⟩
  cases v with
  | rel n cs r =>
    cases w with
    | rel m ds r' =>
      simp only [fvFull, fvW, fvN, fvD, eqv_tup, eqv_cons, eqv_str, eqv_int, eqv_nil, Bool.and_eq_true] at h
      obtain ⟨_, h1, h2, h3, _⟩ := h
      rw [beq_iff_eq.mp h1, eqv_strs _ _ h2, nat_eqv h3]
    | _ => exact absurd hw.1 (by simp only [fvW]; decide +kernel)
  | fact n row =>
    cases w with
    | fact m row' =>
      simp only [fvFull, eqv_tup, eqv_cons, eqv_str, eqv_nil, Bool.and_eq_true] at h
      obtain ⟨_, h1, h2, _⟩ := h
      rw [eqv_row ov.2.1 ow.2.1] at h2
      rw [beq_iff_eq.mp h1, of_decide_eq_true h2]
    | _ => exact absurd hw.1 (by simp only [fvW]; decide +kernel)
  | str n rn cs b s =>
    cases w with
    | str m rm ds b' s' =>
      simp only [fvFull, fvW, fvN, fvD, eqv_tup, eqv_cons, eqv_str, eqv_int, eqv_nil, Bool.and_eq_true] at h
      obtain ⟨_, h1, h2, h3, h4, h5, _⟩ := h
      rw [beq_iff_eq.mp h1, beq_iff_eq.mp h2, eqv_strs _ _ h3, nat_eqv h4, nat_eqv h5]
    | _ => exact absurd hw.1 (by simp only [fvW]; decide +kernel)
  | lay n cs =>
    cases w with
    | lay m ds =>
      simp only [fvFull, fvW, fvN, fvD, eqv_tup, eqv_cons, eqv_str, eqv_nil, Bool.and_eq_true] at h
      obtain ⟨_, h1, h2, _⟩ := h
      rw [beq_iff_eq.mp h1, eqv_strs _ _ h2]
    | _ => exact absurd hw.1 (by simp only [fvW]; decide +kernel)
end K1
namespace K1
open PySem PySem.Spec PyProof.Rows L2 Ow Tlz
/-! the change between two rows of items -/
def goesL (os os2 : Its) : List Chg := (os.filter fun t => !(os2.any fun u => decide (tOrd (te u) (te t) = 0))).map fun t => .goes (soI t.2) (ier t.2).2.1 (ier t.2).2.2.1
def newB (fs : List Fv) (w : Fv) : Bool := !(fs.any fun v => PyData.eqv (fvFull v) (fvFull w))
def comesL (fs : List Fv) (ts : List ((Addr × It) × Fv)) : List Chg := (ts.filter fun p => newB fs p.2).map fun p => .comes p.1
theorem tOrd_cong {a b a' b' : Kt} (h : tEq a a') (g : tEq b b') : tOrd a b = tOrd a' b' := by
  unfold tOrd
  rw [h.1, h.2.1, h.2.2, g.1, g.2.1, g.2.2]
theorem chgK_eq (t : Addr × It) : tEq (te t) (chgK (soI t.2) (ier t.2).2.1 (ier t.2).2.2.1) := ⟨so_ier t.2, rfl, rfl⟩
theorem fold_goes : ∀ (ks : Its) (os : Its), ScI ks → KSrt os → ScI os → KSrt ((ks.map fun t => Chg.goes (soI t.2) (ier t.2).2.1 (ier t.2).2.2.1).foldl stepC os) ∧ ScI ((ks.map fun t => Chg.goes (soI t.2) (ier t.2).2.1 (ier t.2).2.2.1).foldl stepC os) ∧
    ∀ u, u ∈ (ks.map fun t => Chg.goes (soI t.2) (ier t.2).2.1 (ier t.2).2.2.1).foldl stepC os ↔ u ∈ os ∧ ∀ t ∈ ks, ¬ tEq (te u) (te t)
  | [], os, _, k, s => ⟨k, s, fun u => ⟨fun m => ⟨m, fun _ z => nomatch z⟩, fun m => m.1⟩⟩
  | t :: ks, os, sk, k, s => by
    have st : tSc (chgK (soI t.2) (ier t.2).2.1 (ier t.2).2.2.1) := sk t List.mem_cons_self
    have k1 : KSrt (rmv os (chgK (soI t.2) (ier t.2).2.1 (ier t.2).2.2.1)) := List.Pairwise.sublist List.filter_sublist k
    have s1 : ScI (rmv os (chgK (soI t.2) (ier t.2).2.1 (ier t.2).2.2.1)) := fun u m => s u (List.mem_filter.mp m).1
    obtain ⟨a, b, c⟩ := fold_goes ks _ (fun u m => sk u (List.mem_cons_of_mem _ m)) k1 s1
    rw [List.map_cons, List.foldl_cons]
    refine ⟨a, b, fun u => (c u).trans ?_⟩
    rw [rmv_mem s st]
    constructor
    · rintro ⟨⟨m, n⟩, h⟩
      refine ⟨m, fun x mx w => ?_⟩
      rcases List.mem_cons.mp mx with z | mx
      · subst z
        have e := chgK_eq x
        exact n ⟨w.1.trans e.1, w.2.1.trans e.2.1, w.2.2.trans e.2.2⟩
      · exact h x mx w
    · rintro ⟨m, h⟩
      refine ⟨⟨m, fun w => ?_⟩, fun x mx => h x (List.mem_cons_of_mem _ mx)⟩
      have e := chgK_eq t
      exact h t List.mem_cons_self ⟨w.1.trans e.1.symm, w.2.1.trans e.2.1.symm, w.2.2.trans e.2.2.symm⟩
end K1
namespace K1
open PySem PySem.Spec PyProof.Rows L2 Ow Tlz
theorem fold_comes : ∀ (ts os : Its), ScI ts → (ts.Pairwise fun a b => ¬ tEq (te a) (te b)) → KSrt os → ScI os → KSrt (ts.foldl plc os) ∧ ScI (ts.foldl plc os) ∧ ∀ u, u ∈ ts.foldl plc os ↔ u ∈ ts ∨ (u ∈ os ∧ ∀ t ∈ ts, ¬ tEq (te u) (te t))
  | [], os, _, _, k, s => ⟨k, s, fun u => ⟨fun m => .inr ⟨m, fun _ z => nomatch z⟩, fun m => m.elim (fun z => nomatch z) fun z => z.1⟩⟩
  | t :: ts, os, st, pw, k, s => by
    have stt := st t List.mem_cons_self
    obtain ⟨p1, p2⟩ := List.pairwise_cons.mp pw
    have s1 : ScI (plc os t) := fun u m => by
      rcases (plc_mem s stt).mp m with z | z
      · rw [z]; exact stt
      · exact s u z.1
    obtain ⟨a, b, c⟩ := fold_comes ts (plc os t) (fun u m => st u (List.mem_cons_of_mem _ m)) p2 (plc_srt k s stt) s1
    rw [List.foldl_cons]
    refine ⟨a, b, fun u => (c u).trans ?_⟩
    rw [plc_mem s stt]
    constructor
    · rintro (m | ⟨z | ⟨m, n⟩, h⟩)
      · exact .inl (List.mem_cons_of_mem _ m)
      · exact .inl (by rw [z]; exact List.mem_cons_self)
      · refine .inr ⟨m, fun x mx => ?_⟩
        rcases List.mem_cons.mp mx with y | mx
        · rw [y]; exact n
        · exact h x mx
    · rintro (m | ⟨m, h⟩)
      · rcases List.mem_cons.mp m with z | m
        · exact .inr ⟨.inl z, fun x mx => by rw [z]; exact p1 x mx⟩
        · exact .inl m
      · exact .inr ⟨.inr ⟨m, h t List.mem_cons_self⟩, fun x mx => h x (List.mem_cons_of_mem _ mx)⟩
theorem ksrt_at {os : Its} (k : KSrt os) (s : ScI os) {i j : Nat} {t u : Addr × It} (ei : os[i]? = some t) (ej : os[j]? = some u) (e : tEq (te t) (te u)) : i = j := by
  obtain ⟨pi, hi⟩ := List.getElem?_eq_some_iff.mp ei
  obtain ⟨pj, hj⟩ := List.getElem?_eq_some_iff.mp ej
  have k := List.pairwise_iff_getElem.mp k
  rcases Nat.lt_trichotomy i j with l | l | l
  · have := k i j pi pj l
    rw [hi, hj] at this
    exact (tEq_lt (s u (List.mem_of_getElem? ej)) e this).elim
  · exact l
  · have := k j i pj pi l
    rw [hi, hj] at this
    exact (tEq_lt (s t (List.mem_of_getElem? ei)) ⟨e.1.symm, e.2.1.symm, e.2.2.symm⟩ this).elim
theorem betw_twl {K : PySem.W.Frag} {H : Hp} {os os2 its2 : Its} {fs gs : List Fv} (k1 : KSrt os) (s1 : ScI os) (v1 : ItsV K H os fs) (k2 : KSrt os2) (s2 : ScI os2) (v2 : ItsV K H os2 gs) (e2 : its2.map te = os2.map te) :
    Twl K H ((goesL os os2 ++ comesL fs (its2.zip gs)).foldl stepC os) os2 := by
  have l2 : its2.length = os2.length := by have := congrArg List.length e2; rwa [List.length_map, List.length_map] at this
  have te_at : ∀ {j : Nat} {x w : Addr × It}, its2[j]? = some x → os2[j]? = some w → te x = te w := fun {j x w} ex ew => by
    have := congrArg (fun l => l[j]?) e2
    simp only [List.getElem?_map, ex, ew, Option.map_some] at this
    exact Option.some.inj this
  have si : ScI its2 := fun x m => by
    obtain ⟨j, ej⟩ := List.mem_iff_getElem?.mp m
    have hj := (List.getElem?_eq_some_iff.mp ej).1
    have ew : os2[j]? = some (os2[j]'(by omega)) := List.getElem?_eq_getElem _
    rw [te_at ej ew]
    exact s2 _ (List.getElem_mem _)
  have ki : KSrt its2 := by
    have := List.pairwise_map.mpr (show os2.Pairwise fun a b => tLt (te a) (te b) from k2)
    rw [← e2] at this
    exact List.pairwise_map.mp this
  -- the items that come
  obtain ⟨cs, hcs⟩ : ∃ cs, cs = ((its2.zip gs).filter fun p => newB fs p.2).map (·.1) := ⟨_, rfl⟩
  have ec : comesL fs (its2.zip gs) = cs.map Chg.comes := by
    rw [hcs, List.map_map]
    rfl
  have mcs : ∀ x, x ∈ cs ↔ ∃ j w, its2[j]? = some x ∧ gs[j]? = some w ∧ newB fs w = true := fun x => by
    rw [hcs, List.mem_map]
    constructor
    · rintro ⟨⟨x', w⟩, m, rfl⟩
      obtain ⟨m, n⟩ := List.mem_filter.mp m
      obtain ⟨j, ej⟩ := List.mem_iff_getElem?.mp m
      rw [List.getElem?_zip_eq_some] at ej
      exact ⟨j, w, ej.1, ej.2, n⟩
    · rintro ⟨j, w, ex, ew, n⟩
      refine ⟨(x, w), List.mem_filter.mpr ⟨?_, n⟩, rfl⟩
      exact List.mem_of_getElem? (i := j) (List.getElem?_zip_eq_some.mpr ⟨ex, ew⟩)
  have sub : cs.Sublist its2 := by
    rw [hcs]
    have a : (((its2.zip gs).filter fun p => newB fs p.2).map (·.1)).Sublist ((its2.zip gs).map (·.1)) := List.Sublist.map _ List.filter_sublist
    have b : (its2.zip gs).map (·.1) = its2 := List.map_fst_zip (by have := v2.1; omega)
    rwa [b] at a
  have scs : ScI cs := fun x m => si x (sub.subset m)
  have pcs : cs.Pairwise fun a b => ¬ tEq (te a) (te b) := by
    have a : cs.Pairwise fun a b => tLt (te a) (te b) := List.Pairwise.sublist sub ki
    refine List.Pairwise.imp_of_mem (fun {x y} mx my l w => ?_) a
    exact tEq_lt (scs y my) w l
  -- what goes
  have sg : ScI (os.filter fun t => !(os2.any fun u => decide (tOrd (te u) (te t) = 0))) := fun u m => s1 u (List.mem_filter.mp m).1
  obtain ⟨a1, a2, a3⟩ := fold_goes (os.filter fun t => !(os2.any fun u => decide (tOrd (te u) (te t) = 0))) os sg k1 s1
  obtain ⟨b1, b2, b3⟩ := fold_comes cs _ scs pcs a1 a2
  have ef : (goesL os os2 ++ comesL fs (its2.zip gs)).foldl stepC os = cs.foldl plc ((goesL os os2).foldl stepC os) := by
    rw [List.foldl_append, ec, List.foldl_map]
    rfl
  have inA : ∀ u, u ∈ (goesL os os2).foldl stepC os ↔ u ∈ os ∧ ∃ w ∈ os2, tEq (te u) (te w) := fun u => by
    refine (a3 u).trans ?_
    have any_iff : ∀ t : Addr × It, t ∈ os → ((os2.any fun u => decide (tOrd (te u) (te t) = 0)) = true ↔ ∃ w ∈ os2, tEq (te w) (te t)) := fun t mt => by
      rw [List.any_eq_true]
      refine exists_congr fun w => and_congr_right fun mw => ?_
      rw [decide_eq_true_iff]
      exact tOrd_zero (s2 w mw) (s1 t mt)
    constructor
    · rintro ⟨m, h⟩
      refine ⟨m, ?_⟩
      cases z : os2.any fun x => decide (tOrd (te x) (te u) = 0) with
      | true =>
        obtain ⟨w, mw, e⟩ := (any_iff u m).mp z
        exact ⟨w, mw, e.1.symm, e.2.1.symm, e.2.2.symm⟩
      | false => exact (h u (List.mem_filter.mpr ⟨m, by rw [z]; rfl⟩) ⟨rfl, rfl, rfl⟩).elim
    · rintro ⟨m, w, mw, e⟩
      refine ⟨m, fun t mt y => ?_⟩
      obtain ⟨m1, m2⟩ := List.mem_filter.mp mt
      have : (os2.any fun x => decide (tOrd (te x) (te t) = 0)) = true := (any_iff t m1).mpr ⟨w, mw, e.1.symm.trans y.1, e.2.1.symm.trans y.2.1, e.2.2.symm.trans y.2.2⟩
      rw [this] at m2
      cases m2
  have old : ∀ {w : Fv}, FvOk w → newB fs w = false → ∃ (i : Nat) (t : Addr × It), os[i]? = some t ∧ FvIt K H t.2 w := fun {w} ow n => by
    unfold newB at n
    have n : (fs.any fun v => PyData.eqv (fvFull v) (fvFull w)) = true := by simpa using n
    obtain ⟨v, mv, e⟩ := List.any_eq_true.mp n
    obtain ⟨i, ei⟩ := List.mem_iff_getElem?.mp mv
    have hi := (List.getElem?_eq_some_iff.mp ei).1
    have et : os[i]? = some (os[i]'(by have := v1.1; omega)) := List.getElem?_eq_getElem _
    obtain ⟨f1, o1⟩ := v1.2 i _ v et ei
    have := full_inj o1 ow e
    subst this
    exact ⟨i, _, et, f1⟩
  have keyEq : ∀ {t w : Addr × It} {v : Fv}, FvIt K H t.2 v → FvIt K H w.2 v → tEq (te t) (te w) := fun {t w v} h g => h.key g
  rw [ef]
  refine twl_of b1 k2 b2 s2 (fun u m => ?_) fun w m => ?_
  · rcases (b3 u).mp m with m | ⟨m, h⟩
    · obtain ⟨j, w, ex, ew, n⟩ := (mcs u).mp m
      have hj := (List.getElem?_eq_some_iff.mp ex).1
      have eo : os2[j]? = some (os2[j]'(by omega)) := List.getElem?_eq_getElem _
      obtain ⟨f2, o2⟩ := v2.2 j _ w eo ew
      exact ⟨_, List.getElem_mem _, w, o2, f2.ier (te_at ex eo).symm, f2⟩
    · obtain ⟨mu, w, mw, e⟩ := (inA u).mp m
      obtain ⟨j, ej⟩ := List.mem_iff_getElem?.mp mw
      have hj := (List.getElem?_eq_some_iff.mp ej).1
      have eg : gs[j]? = some (gs[j]'(by have := v2.1; omega)) := List.getElem?_eq_getElem _
      have ex : its2[j]? = some (its2[j]'(by omega)) := List.getElem?_eq_getElem _
      obtain ⟨f2, o2⟩ := v2.2 j w _ ej eg
      cases n : newB fs (gs[j]'(by have := v2.1; omega)) with
      | true =>
        refine absurd ?_ (h _ ((mcs _).mpr ⟨j, _, ex, eg, n⟩))
        rw [te_at ex ej]
        exact e
      | false =>
        obtain ⟨i, t, et, f1⟩ := old o2 n
        obtain ⟨i', eu⟩ := List.mem_iff_getElem?.mp mu
        have k := keyEq f1 f2
        have := ksrt_at k1 s1 et eu ⟨k.1.trans e.1.symm, k.2.1.trans e.2.1.symm, k.2.2.trans e.2.2.symm⟩
        subst this
        rw [et] at eu
        cases eu
        exact ⟨w, mw, _, o2, f1, f2⟩
  · obtain ⟨j, ej⟩ := List.mem_iff_getElem?.mp m
    have hj := (List.getElem?_eq_some_iff.mp ej).1
    have eg : gs[j]? = some (gs[j]'(by have := v2.1; omega)) := List.getElem?_eq_getElem _
    have ex : its2[j]? = some (its2[j]'(by omega)) := List.getElem?_eq_getElem _
    obtain ⟨f2, o2⟩ := v2.2 j w _ ej eg
    cases n : newB fs (gs[j]'(by have := v2.1; omega)) with
    | true => exact ⟨_, (b3 _).mpr (.inl ((mcs _).mpr ⟨j, _, ex, eg, n⟩)), _, o2, f2.ier (te_at ex ej).symm, f2⟩
    | false =>
      obtain ⟨i, t, et, f1⟩ := old o2 n
      have k := keyEq f1 f2
      refine ⟨t, (b3 t).mpr (.inr ⟨(inA t).mpr ⟨List.mem_of_getElem? et, w, m, k⟩, fun x mx y => ?_⟩), _, o2, f1, f2⟩
      obtain ⟨j', w', ex', ew', n'⟩ := (mcs x).mp mx
      have hj' := (List.getElem?_eq_some_iff.mp ex').1
      have eo' : os2[j']? = some (os2[j']'(by omega)) := List.getElem?_eq_getElem _
      rw [te_at ex' eo'] at y
      have := ksrt_at k2 s2 ej eo' ⟨k.1.symm.trans y.1, k.2.1.symm.trans y.2.1, k.2.2.symm.trans y.2.2⟩
      subst this
      rw [eg] at ew'
      cases ew'
      rw [n] at n'
      cases n'
end K1
namespace K1
open PySem PySem.Spec PyProof.Rows L2 Ow Tlz
abbrev sbetween : Stmt := topS 14
abbrev Nbetween : List Str := ["first", "second", "before", "after", "goes", "comes", "key", "item"]
theorem scbetween : FnScope Nbetween ["first", "second"] (defScope sbetween) := ⟨rfl, rfl, rfl, by decide +kernel, rfl, by decide +kernel, by decide +kernel⟩
theorem Tk.ex {K : PySem.W.Frag} {H : Hp} {p d : Addr} {ob : Obj} {o : HO} (e : H p = some (exO d ob)) : Tk K H (upd H p o) := by
  unfold exO at e
  refine ⟨fun a xs h => ?_, fun a xs ⟨o, h, d⟩ => ⟨o, by rw [upd_ne (fun z => by rw [z, e] at h; cases h)]; exact h, d⟩⟩
  rcases h with (h | ⟨u, h⟩) | h
  · exact .inl (.inl (by rw [upd_ne (fun z => by rw [z, e] at h; cases h)]; exact h))
  · exact .inl (.inr ⟨u, by rw [upd_ne (fun z => by rw [z, e] at h; cases h)]; exact h⟩)
  · exact .inr h
theorem _root_.Ow.NkA.tk {K : PySem.W.Frag} {H H' : Hp} {a : Addr} {k : NestedKey} (t : Tk K H H') (h : NkA K H a k) : NkA K H' a k := ⟨Nk.tk t.f k _ h.1, h.2⟩
/-- the dict of some items by their keys -/
structure ByKey (P : Program) (w : World) (K : PySem.W.Frag) (H : Hp) (D : Addr) (o : Obj) (xs : List NE) (its : Its) : Prop where
  d : DN P w K H D o xs
  l : xs.length = its.length
  g : ∀ (i : Nat) (e : NE) (t : Addr × It), xs[i]? = some e → its[i]? = some t → e.1 = nkI t.2 ∧ e.2.2 = .ref t.1 ∧ KeyAt K H (.ref e.2.1) (ier t.2).1 (ier t.2).2.1 (ier t.2).2.2.1
theorem ByKey.tk {P : Program} {w : World} {K : PySem.W.Frag} {H H' : Hp} {D : Addr} {o : Obj} {xs : List NE} {its : Its} (h : ByKey P w K H D o xs its) (t : Tk K H H') (e : H' D = some (exO D o)) : ByKey P w K H' D o xs its :=
  ⟨⟨e, h.d.ok, fun x m => (h.d.ks x m).tk t⟩, h.l, fun i x u a b => ⟨(h.g i x u a b).1, (h.g i x u a b).2.1, (h.g i x u a b).2.2.tk t⟩⟩
theorem nkI_at {its : Its} (k : KSrt its) (s : ScI its) {i j : Nat} {t u : Addr × It} (ei : its[i]? = some t) (ej : its[j]? = some u) (e : nkI t.2 = nkI u.2) : i = j :=
  ksrt_at k s ei ej ((nkI_iff (s t (List.mem_of_getElem? ei)) (s u (List.mem_of_getElem? ej))).mp e)
theorem ByKey.snoc {P : Program} {w : World} {K : PySem.W.Frag} {H : Hp} {D a : Addr} {o o' : Obj} {xs : List NE} {its : Its} {t : Addr × It} (h : ByKey P w K H D o xs its) (k : KSrt (its ++ [t])) (s : ScI (its ++ [t])) (ka : KeyAt K H (.ref a) (ier t.2).1 (ier t.2).2.1 (ier t.2).2.2.1) (no : NOk P w D o' (putN xs (nkI t.2) a (.ref t.1))) :
    ByKey P w K (upd H D (exO D o')) D o' (putN xs (nkI t.2) a (.ref t.1)) (its ++ [t]) := by
  have tk : Tk K H (upd H D (exO D o')) := Tk.ex h.d.at_
  have et : (its ++ [t])[its.length]? = some t := by simp
  have nw : ∀ e ∈ xs, e.1 ≠ nkI t.2 := fun e m z => by
    obtain ⟨i, ei⟩ := List.mem_iff_getElem?.mp m
    have hi := (List.getElem?_eq_some_iff.mp ei).1
    have l := h.l
    have eu : its[i]? = some (its[i]'(by omega)) := List.getElem?_eq_getElem _
    have g := (h.g i e _ ei eu).1
    have := nkI_at k s (i := i) (j := its.length) (by rw [List.getElem?_append_left (by omega)]; exact eu) et (g.symm.trans z)
    omega
  have e := putN_new (b := a) (v := V.ref t.1) nw
  refine ⟨⟨upd_same, no, fun x m => ?_⟩, by rw [e, List.length_append, List.length_append, h.l]; rfl, fun i x u ex eu => ?_⟩
  · rw [e] at m
    rcases List.mem_append.mp m with m | m
    · exact (h.d.ks x m).tk tk
    · rw [List.mem_singleton.mp m]
      exact ka.nk.tk tk
  · rw [e] at ex
    by_cases z : i < xs.length
    · rw [List.getElem?_append_left z] at ex
      rw [List.getElem?_append_left (by rw [← h.l]; exact z)] at eu
      obtain ⟨g1, g2, g3⟩ := h.g i x u ex eu
      exact ⟨g1, g2, g3.tk tk⟩
    · have hm := (List.getElem?_eq_some_iff.mp ex).1
      rw [List.length_append, List.length_singleton] at hm
      have z2 : i = xs.length := by omega
      subst z2
      have a1 : (nkI t.2, a, V.ref t.1) = x := by simpa using ex
      rw [h.l] at eu
      have a2 : t = u := by simpa using eu
      subst a1 a2
      exact ⟨rfl, rfl, ka.tk tk⟩
theorem ByKey.at_ {P : Program} {w : World} {K : PySem.W.Frag} {H : Hp} {D : Addr} {o : Obj} {xs : List NE} {its : Its} (h : ByKey P w K H D o xs its) (k : KSrt its) (s : ScI its) {i : Nat} {t : Addr × It} (et : its[i]? = some t) {j : It} (sj : ∀ x ∈ (ier j).2.2.1, Scal x) (e : tEq (ier j) (te t)) : atN xs (nkI j) = some (.ref t.1) := by
  have hi := (List.getElem?_eq_some_iff.mp et).1
  have l := h.l
  have ex : xs[i]? = some (xs[i]'(by omega)) := List.getElem?_eq_getElem _
  obtain ⟨g1, g2, _⟩ := h.g i _ t ex et
  have nd : (xs.map (·.1)).Nodup := by
    rw [List.nodup_iff_pairwise_ne, List.pairwise_map, List.pairwise_iff_getElem]
    intro a b ha hb lt z
    have ea : its[a]? = some (its[a]'(by omega)) := List.getElem?_eq_getElem _
    have eb : its[b]? = some (its[b]'(by omega)) := List.getElem?_eq_getElem _
    have ga := (h.g a _ _ (List.getElem?_eq_getElem ha) ea).1
    have gb := (h.g b _ _ (List.getElem?_eq_getElem hb) eb).1
    have := nkI_at k s ea eb (ga.symm.trans (z.trans gb))
    omega
  have := atN_of nd (List.getElem_mem (l := xs) (n := i) (by omega)) (k := nkI j) (g1.trans ((nkI_iff (s t (List.mem_of_getElem? et)) sj).mpr ⟨e.1.symm, e.2.1.symm, e.2.2.symm⟩))
  rw [this, g2]
theorem ByKey.no {P : Program} {w : World} {K : PySem.W.Frag} {H : Hp} {D : Addr} {o : Obj} {xs : List NE} {its : Its} (h : ByKey P w K H D o xs its) (s : ScI its) {j : It} (sj : ∀ x ∈ (ier j).2.2.1, Scal x) (e : ∀ t ∈ its, ¬ tEq (ier j) (te t)) : atN xs (nkI j) = none := by
  refine atN_none fun x m z => ?_
  obtain ⟨i, ei⟩ := List.mem_iff_getElem?.mp m
  have hi := (List.getElem?_eq_some_iff.mp ei).1
  have l := h.l
  have et : its[i]? = some (its[i]'(by omega)) := List.getElem?_eq_getElem _
  obtain ⟨g1, _⟩ := h.g i x _ ei et
  have y := (nkI_iff (s _ (List.mem_of_getElem? et)) sj).mp (g1.symm.trans z)
  exact e _ (List.mem_of_getElem? et) ⟨y.1.symm, y.2.1.symm, y.2.2.symm⟩
end K1
/-! d.get(k) as it is written -/
namespace Ow
open PySem PySem.Spec PyProof.Rows L2
def tNGet1 (P : Program) (w : World) (K : PySem.W.Frag) (td ty : TE) : TE := fun σ H Q => td σ H fun x H1 => ∃ (d : Addr), x = .ref d ∧ (∃ o xs, H1 d = some (exO d o) ∧ NOk P w d o xs) ∧ ty σ H1 fun y H2 => ∃ (a : Addr) (k : NestedKey) (o : Obj) (xs : List NE), y = .ref a ∧ NkA K H2 a k ∧ DN P w K H2 d o xs ∧ Q ((atN xs k).getD .non) H2
theorem pe_nget1 {X : Cx} {o e : Expr} {apos cpos : Pos} {td ty : TE} (hu : X.A.units + 64 < cLine) (ho : PE X o td) (he : PE X e ty) (m : M1 X o "get" apos e cpos) : PE X (.Call (.Attribute o "get" apos) [e] [] cpos) (tNGet1 X.prog X.w X.K td ty) := by
  refine ⟨fun pins s σ H Q I h => ?_⟩
  refine wpAny_Call_method m.base m.few m.line PySem.F.plainAttrs_dict PySem.F.slot_dict_get PySem.F.type_dict_get (thn (ho.run pins s σ H _ I h) fun u s1 ⟨x, H1, I1, rx, d, ex, ⟨ob, xs, ed, ok⟩, q1⟩ => ?_)
  subst ex
  obtain rfl : u = Value.ref d := rx
  obtain ⟨ys, es, ep, r, xd, _⟩ := ok.ex
  have eg := exO_get I1.hok ed
  refine ⟨?_, fun a e => ?_, ?_⟩
  · exact ⟨ob, eg, xd.1⟩
  · cases e
    exact ⟨ob, eg, xd.2.1⟩
  · rw [m.trees]
    refine Calls.callWith_builtin rfl (Calls.evalArgs_plain (Calls.spliced_cons (thn (he.run pins s1 σ H1 _ I1 q1) fun iv s2 ⟨y, H2, I2, ry, a, k, o', xs', ey, hk, D, q2⟩ => ?_)))
    subst ey
    exact Calls.spliced_nil (mt_getN hu pins s2 σ H2 (.ref d) [.ref a] (Value.ref d) [iv] Q I2 rfl (.cons ry .nil) ⟨d, a, k, o', xs', rfl, rfl, hk, D, q2⟩)
end Ow
/-! the same within a comprehension's block -/
namespace Ow
open PySem PySem.Spec PyProof.Rows L2
theorem op_notInN_K {X : Cx} {P : Program} {w : World} {K : PySem.W.Frag} (e1 : X.prog = P) (e2 : X.w = w) (e3 : X.K = K) (hu : X.A.units + 64 < cLine) : OpR X (compareOp .NotIn) (rInN P w K true) := by
  subst e1 e2 e3
  exact op_notInN hu
theorem pe_nget_K {X : Cx} {P : Program} {w : World} {K : PySem.W.Frag} (e1 : X.prog = P) (e2 : X.w = w) (e3 : X.K = K) {o i : Expr} {pos : Pos} {td ty : TE} (ho : PE X o td) (hi : PE X i ty) (hu : X.A.units + 64 < cLine) (hs : NoSl i) : PE X (o.Subscript i pos) (tNGet P w K td ty) := by
  subst e1 e2 e3
  exact pe_nget hu ho hi hs
theorem pe_nget1_K {X : Cx} {P : Program} {w : World} {K : PySem.W.Frag} (e1 : X.prog = P) (e2 : X.w = w) (e3 : X.K = K) {o e : Expr} {apos cpos : Pos} {td ty : TE} (ho : PE X o td) (he : PE X e ty) (hu : X.A.units + 64 < cLine) (m : M1 X o "get" apos e cpos) : PE X (.Call (.Attribute o "get" apos) [e] [] cpos) (tNGet1 P w K td ty) := by
  subst e1 e2 e3
  exact pe_nget1 hu ho he m
theorem op_neD_K {X : Cx} {K : PySem.W.Frag} (e : X.K = K) (hu : X.A.units + 64 < cLine) : OpR X (compareOp .NotEq) (rNeD K) := by
  subst e
  exact op_neD hu
end Ow
namespace K1
open PySem PySem.Spec PyProof.Rows L2 Ow Tlz
def goesP (os2 : Its) (ts : Its) : List Chg := (ts.filter fun t => !(os2.any fun u => decide (tOrd (te u) (te t) = 0))).map fun t => .goes (soI t.2) (ier t.2).2.1 (ier t.2).2.2.1
theorem so_te {t u : Addr × It} (e : te t = te u) : soI t.2 = soI u.2 := by
  have := congrArg (fun x => x.1) e
  have a := so_ier t.2
  have b := so_ier u.2
  unfold te at this
  rw [a, b] at this
  omega
theorem goesP_te (os2 : Its) : ∀ {A B : Its}, A.map te = B.map te → goesP os2 A = goesP os2 B
  | [], [], _ => rfl
  | [], _ :: _, e => by cases e
  | _ :: _, [], e => by cases e
  | a :: A, b :: B, e => by
    rw [List.map_cons, List.map_cons] at e
    obtain ⟨e1, e2⟩ := List.cons.inj e
    have ih := goesP_te os2 e2
    unfold goesP at ih ⊢
    rw [List.filter_cons, List.filter_cons, e1]
    have es := so_te e1
    have ei : ier a.2 = ier b.2 := e1
    split
    · rw [List.map_cons, List.map_cons, ih, es, ei]
    · exact ih
theorem goesP_any {os2 its2 : Its} (e : its2.map te = os2.map te) (ts : Its) : goesP its2 ts = goesP os2 ts := by
  unfold goesP
  congr 1
  refine List.filter_congr fun t _ => ?_
  have : ∀ l : Its, (l.any fun u => decide (tOrd (te u) (te t) = 0)) = (l.map te).any fun k => decide (tOrd k (te t) = 0) := fun l => by rw [List.any_map]; rfl
  rw [this, this, e]
theorem ChgsAt.snoc {K : PySem.W.Frag} {H : Hp} {xs : List V} {cs : List Chg} {x : V} {c : Chg} (h : ChgsAt K H xs cs) (g : ChgAt K H x c) : ChgsAt K H (xs ++ [x]) (cs ++ [c]) := by
  refine ⟨by rw [List.length_append, List.length_append, h.1]; rfl, fun i y d ey ed => ?_⟩
  by_cases z : i < xs.length
  · rw [List.getElem?_append_left z] at ey
    rw [List.getElem?_append_left (by rw [← h.1]; exact z)] at ed
    exact h.2 i y d ey ed
  · have hm := (List.getElem?_eq_some_iff.mp ey).1
    rw [List.length_append, List.length_singleton] at hm
    have z2 : i = xs.length := by omega
    subst z2
    have a1 : x = y := by simpa using ey
    rw [h.1] at ed
    have a2 : c = d := by simpa using ed
    subst a1 a2
    exact g
theorem ChgsAt.app {K : PySem.W.Frag} {H : Hp} {xs ys : List V} {cs ds : List Chg} (h : ChgsAt K H xs cs) (g : ChgsAt K H ys ds) : ChgsAt K H (xs ++ ys) (cs ++ ds) := by
  refine ⟨by rw [List.length_append, List.length_append, h.1, g.1], fun i y d ey ed => ?_⟩
  by_cases z : i < xs.length
  · rw [List.getElem?_append_left z] at ey
    rw [List.getElem?_append_left (by rw [← h.1]; exact z)] at ed
    exact h.2 i y d ey ed
  · rw [List.getElem?_append_right (by omega)] at ey
    rw [List.getElem?_append_right (by have := h.1; omega), ← h.1] at ed
    exact g.2 _ y d ey ed
theorem by_read {P : Program} {w : World} {K : PySem.W.Frag} {H : Hp} {ct D : Addr} {its : Its} {o0 : Obj} {Qd : Hp → Prop} {g : TG} {tk tv : TE} {σ : L2.St} {vs : List Nat} (h2 : SqL K H ct (irf its)) (ig : ItsG K H its) (k : KSrt its) (l : its.length ≤ 40) (nD : H D = none) (ok0 : NOk P w D o0 [])
    (hstep : ∀ (t : Addr × It) (H' : Hp) (R : V → V → Hp → Prop) (N : Hp → Prop), ItG K H' t.1 t.2 → (∀ ky H5, Same H' H5 → KeyAt K H5 ky (ier t.2).1 (ier t.2).2.1 (ier t.2).2.2.1 → R ky (.ref t.1) H5) →
      g (.ref t.1) (wipe σ vs) H' fun σ2 H2 => wipe σ2 vs = wipe σ vs ∧ tYes σ2 H2 fun b H3 => if b = true then tk σ2 H3 fun y H4 => tv σ2 H4 fun z H5 => R y z H5 else N H3)
    (q : ∀ (H' : Hp) (o : Obj) (xs : List NE), Same H H' → ByKey P w K H' D o xs its → Qd H') :
    ∃ W : Nat → Nat → Hp → Prop, (∃ m, W 0 m (upd H D (exO D o0))) ∧ ∀ i m H, W i m H →
      ((Itl K ct).stop i H ∧ Qd H) ∨ ((Itl K ct).go i H ∧ ∃ Nx : Hp → Prop, (∀ H', Nx H' → ∃ m', m' < m ∧ W (i + 1) m' H') ∧ ∀ x H', (Itl K ct).yld i H x H' → g x (wipe σ vs) H' fun σ2 H2 => wipe σ2 vs = wipe σ vs ∧ tYes σ2 H2 fun b H3 =>
        if b = true then tk σ2 H3 fun y H4 => tv σ2 H4 fun z H5 => ∃ (a : Addr) (k : NestedKey) (o : Obj) (xs : List NE), y = .ref a ∧ NkA K H5 a k ∧ DN P w K H5 D o xs ∧ xs.length < sizeLine ∧ ∀ o', NOk P w D o' (putN xs k a z) → Nx (upd H5 D (exO D o')) else Nx H3) := by
  refine dcn_it (walk_list (K := K) (a := ct) (xs := irf its)) (fun j H' => Same H H' ∧ ∃ (o : Obj) (xs : List NE), ByKey P w K H' D o xs (its.take j)) ⟨Same.new nD, o0, [], ⟨upd_same, ok0, (fun _ m => nomatch m)⟩, rfl, fun i e t a => by simp at a⟩ (fun i H' _ ⟨s', _⟩ => s'.seq h2) (fun i x H1 H1' hi ⟨s1, o, xs, bk⟩ yy => ?_) fun H' ⟨s', o, xs, bk⟩ => ?_
  · obtain ⟨rfl, ex⟩ := yy
    obtain ⟨t, et, rfl⟩ := irf_get ex
    refine hstep t _ _ _ ((ig t (List.mem_of_getElem? et)).same s1) fun ky H5 s5 ka => ?_
    obtain ⟨a, r, rfl, _⟩ := id ka
    have bk5 := bk.tk (Tk.same s5) (s5 _ _ bk.d.at_)
    have lx := bk.l
    rw [List.length_take] at lx
    refine ⟨a, nkI t.2, o, xs, rfl, ka.nk, bk5.d, small (m := 1000) (by omega) (by decide), fun o' no => ⟨Same.over (s1.trans s5) nD, o', putN xs (nkI t.2) a (.ref t.1), ?_⟩⟩
    have k1 : KSrt (its.take (i + 1)) := List.Pairwise.sublist (List.take_sublist _ _) k
    have s2 : ScI (its.take (i + 1)) := fun u m => ig.sc u (List.mem_of_mem_take m)
    rw [take_snoc' et] at k1 s2 ⊢
    exact bk5.snoc k1 s2 ka no
  · rw [irf_len, List.take_length] at bk
    exact q H' o xs s' bk
/-- a state whose items have values -/
structure SV (K : PySem.W.Frag) (C : Addr) (H : Hp) (x dr df ds dl : Addr) (Z : Addr → Prop) (R S : Tb) (F : Fb) (L : List (Str × V)) (b : Nat) (os : Its) (fs : List Fv) : Prop where
  st : StAt K C Z H x dr df ds dl R F S L b
  hb : b ≤ 300
  rep : Rep os R F S L
  g : ItsG K H os
  v : ItsV K H os fs
  k : KSrt os
  l : os.length ≤ 40
theorem SV.same {K : PySem.W.Frag} {C : Addr} {H H' : Hp} {x dr df ds dl : Addr} {Z : Addr → Prop} {R S : Tb} {F : Fb} {L : List (Str × V)} {b : Nat} {os : Its} {fs : List Fv} (h : SV K C H x dr df ds dl Z R S F L b os fs) (s : Same H H') : SV K C H' x dr df ds dl Z R S F L b os fs :=
  ⟨h.st.same s, h.hb, h.rep, h.g.same s, ⟨h.v.1, fun i t v e f => ⟨(h.v.2 i t v e f).1.tk (Tk.same s), (h.v.2 i t v e f).2⟩⟩, h.k, h.l⟩
def spBetween (K : PySem.W.Frag) (C : Addr) : Sp := fun vs H Q _ => ∃ (x y dr df ds dl dr2 df2 ds2 dl2 : Addr) (Z Z2 : Addr → Prop) (R S R2 S2 : Tb) (F F2 : Fb) (L L2 : List (Str × V)) (b b2 : Nat) (os os2 : Its) (fs gs : List Fv), vs = [.ref x, .ref y] ∧ SV K C H x dr df ds dl Z R S F L b os fs ∧ SV K C H y dr2 df2 ds2 dl2 Z2 R2 S2 F2 L2 b2 os2 gs ∧
  ∀ (p : Addr) (xs : List V) (its2 : Its) H', Same H H' → H p = none → H' p = some (.lst xs) → ItsG K H' its2 → its2.map te = os2.map te → ChgsAt K H' xs (goesL os os2 ++ comesL fs (its2.zip gs)) → xs.length ≤ 80 → Q (.ref p) H'
section
variable {P : Program} {w : World} {K : PySem.W.Frag} {mg : Str → Option Value} {base : Heap} {C : Addr}
theorem ok_between {f : Addr} {fd : FuncData} (F0 : Fun K "between" "between" sbetween f fd) (T0 : Bl mg) (X : Txt K mg C) (Dkey_of : Kn P w K mg base 1 "key_of" ["item"] (spKeyOf K)) (Sall : Kmt P w K mg base C 1 "all_items" ["self"] (spAll K C)) :
    FnOk P w K mg base CX0 2 f fd ["first", "second"] (spBetween K C) := by
  refine F0.ok scbetween (fun vs H Q E h => ?_) (fun cdv A outer s0 H vs Q E hr h => ?_)
  · obtain ⟨x, y, dr, df, ds, dl, dr2, df2, ds2, dl2, Z, Z2, R, S, R2, S2, F, F2, L, L2, b, b2, os, os2, fs, gs, rfl, _⟩ := h
    rfl
  · obtain ⟨x, y, dr, df, ds, dl, dr2, df2, ds2, dl2, Z, Z2, R, S, R2, S2, F, F2, L, L2, b, b2, os, os2, fs, gs, rfl, v1, v2, q⟩ := h
    refine ⟨_, (pss_cons (ps_set (i := 2) scbetween.nd rfl (.inr rfl) (pe_dcN (own := [("item", 7)]) (g := gName 7) (tt := tYes) rfl (hu64 hr) scbetween.nd (pi_list (pe_mt0 Sall hr (pv 0))) (blkOk_by (own := [("item", 7)]) (N := Nbetween) (sc := defScope sbetween) (by decide +kernel)) (fun _ _ _ _ _ => pg_name (i := 7) scbetween.nd rfl (Or.inl rfl)) (fun _ _ _ _ _ => pts_nil) (fun _ _ _ _ _ => pe_kn Dkey_of hr (pa_cons (pv 7) pa_nil)) (fun _ _ _ _ _ => pv 7)))
      (pss_cons (ps_set (i := 3) scbetween.nd rfl (.inr rfl) (pe_dcN (own := [("item", 7)]) (g := gName 7) (tt := tYes) rfl (hu64 hr) scbetween.nd (pi_list (pe_mt0 Sall hr (pv 1))) (blkOk_by (own := [("item", 7)]) (N := Nbetween) (sc := defScope sbetween) (by decide +kernel)) (fun _ _ _ _ _ => pg_name (i := 7) scbetween.nd rfl (Or.inl rfl)) (fun _ _ _ _ _ => pts_nil) (fun _ _ _ _ _ => pe_kn Dkey_of hr (pa_cons (pv 7) pa_nil)) (fun _ _ _ _ _ => pv 7)))
      (pss_cons (ps_setLc (i := 4) (own := [("key", 6)]) (g := gName 6) rfl scbetween.nd rfl rfl (sw_true rfl rfl rfl (by decide +kernel)) (pi_keysN (pv 2)) (blkOk_by (own := [("key", 6)]) (N := Nbetween) (sc := defScope sbetween) (by decide +kernel)) (fun _ _ _ _ _ => pg_name (i := 6) scbetween.nd rfl (Or.inl rfl)) (fun _ _ _ _ _ => (pts_one (pt_cmpR (op_notInN_K (P := P) (w := w) (K := K) rfl rfl rfl (hu64 hr)) (pv 6) (pv 3) (by rfl)))) (fun _ _ _ _ _ => (pe_tup (pa_cons pe_str (pa_cons (pv 6) pa_nil)))))
      (pss_cons (ps_setLc (i := 5) (own := [("key", 6)]) (g := gName 6) rfl scbetween.nd rfl rfl (sw_true rfl rfl rfl (by decide +kernel)) (pi_keysN (pv 3)) (blkOk_by (own := [("key", 6)]) (N := Nbetween) (sc := defScope sbetween) (by decide +kernel)) (fun _ _ _ _ _ => pg_name (i := 6) scbetween.nd rfl (Or.inl rfl)) (fun _ _ _ _ _ => (pts_one (pt_cmpR (op_neD_K (K := K) rfl (hu64 hr)) (pe_nget1_K (P := P) (w := w) (K := K) rfl rfl rfl (pv 2) (pv 6) (hu64 hr) ⟨rfl, rfl, rfl, rfl⟩) (pe_nget_K (P := P) (w := w) (K := K) rfl rfl rfl (pv 3) (pv 6) (hu64 hr) (fun _ _ => rfl)) (nomark _)))) (fun _ _ _ _ _ => (pe_tup (pa_cons pe_str (pa_cons (pe_nget_K (P := P) (w := w) (K := K) rfl rfl rfl (pv 3) (pv 6) (hu64 hr) (fun _ _ => rfl)) pa_nil)))))
      (pss_one (ps_ret (pe_op op_cat (pv 4) (pv 5)))))))), ?_⟩
    obtain ⟨dx, ob⟩ := v1.st.ob
    obtain ⟨bR, bF, bS, bL⟩ := v1.rep.len
    have l1 := v1.l
    have l2 := v2.l
    refine ⟨_, rfl, x, dx, _, rfl, ob, flds_no _ _ _ _ (by decide +kernel), ?_⟩
    refine ⟨x, dr, df, ds, dl, Z, R, S, F, L, b, rfl, v1.st, v1.hb, TabG.of v1.rep v1.g, by omega, by omega, by omega, by omega, fun its1 p1 ys fs1 ss ls H1 py sy pf sf ps ss' pl sl ee s1 np1 ep1 ig1 => ?_⟩
    have eq1 := ee.trans (allE_eq v1.rep v1.k v1.g.sc py sy pf sf ps ss' pl sl)
    clear ee py sy pf sf ps ss' pl sl bR bF bS bL
    have len1 : its1.length = os.length := by have := congrArg List.length eq1; rwa [List.length_map, List.length_map] at this
    have kte : ∀ {A B : Its}, A.map te = B.map te → KSrt B → KSrt A := fun {A B} e k => by
      have := List.pairwise_map.mpr (show B.Pairwise fun a b => tLt (te a) (te b) from k)
      rw [← e] at this
      exact List.pairwise_map.mp this
    have k1 := kte eq1 v1.k
    refine ⟨p1, rfl, ⟨_, SqL.of ep1⟩, fun D o0 nD ok0 => ?_⟩
    refine by_read (SqL.of ep1) ig1 k1 (by omega) nD ok0 (fun t H' R N hi fin => ⟨rfl, _, rfl, t.1, t.2, rfl, hi, fun ky H5 ka s5 => ⟨_, rfl, fin ky H5 s5 ka⟩⟩) fun H2 o1 xs1 s2 bk1 => ?_
    -- the other
    have v2' := v2.same (s1.trans s2)
    obtain ⟨dx2, ob2⟩ := v2'.st.ob
    obtain ⟨bR, bF, bS, bL⟩ := v2'.rep.len
    refine ⟨_, rfl, y, dx2, _, rfl, ob2, flds_no _ _ _ _ (by decide +kernel), ?_⟩
    refine ⟨y, dr2, df2, ds2, dl2, Z2, R2, S2, F2, L2, b2, rfl, v2'.st, v2'.hb, TabG.of v2'.rep v2'.g, by omega, by omega, by omega, by omega, fun its2 p2 ys fs1 ss ls H3 py sy pf sf ps ss' pl sl ee s3 np2 ep2 ig2 => ?_⟩
    have eq2 := ee.trans (allE_eq v2'.rep v2'.k v2'.g.sc py sy pf sf ps ss' pl sl)
    clear ee py sy pf sf ps ss' pl sl bR bF bS bL
    have len2 : its2.length = os2.length := by have := congrArg List.length eq2; rwa [List.length_map, List.length_map] at this
    have k2 := kte eq2 v2.k
    refine ⟨p2, rfl, ⟨_, SqL.of ep2⟩, fun D2 o02 nD2 ok02 => ?_⟩
    refine by_read (SqL.of ep2) ig2 k2 (by omega) nD2 ok02 (fun t H' R N hi fin => ⟨rfl, _, rfl, t.1, t.2, rfl, hi, fun ky H5 ka s5 => ⟨_, rfl, fin ky H5 s5 ka⟩⟩) fun H4 o2 xs2 s4 bk2 => ?_
    have s24 := s3.trans s4
    have bk1 := bk1.tk (Tk.same s24) (s24 _ _ bk1.d.at_)
    have ig1 := ig1.same (s2.trans s24)
    have ig2 := ig2.same s4
    have s04 := (s1.trans s2).trans s24
    -- the keys that go
    refine ⟨_, rfl, D, o1, xs1, rfl, bk1.d.at_, bk1.d.ok, fun G nG => ?_⟩
    refine lc_it walk_keysN (fun i H' => Same H4 H' ∧ ∃ acc : List V, H' G = some (.lst acc) ∧ ChgsAt K H' acc (goesP its2 (its1.take i)) ∧ acc.length ≤ i) ⟨Same.new nG, [], upd_same, ⟨rfl, fun i e t a => by simp at a⟩, Nat.le_refl _⟩ (fun i H' _ ⟨s', _⟩ => s' _ _ bk1.d.at_) (fun i z H5 H5' hi ⟨s5, acc, eG, ch, la⟩ yy => ?_) fun H5 ⟨s5, acc, eG, ch, la⟩ => ?_
    · obtain ⟨rfl, e, ee, rfl⟩ := yy
      have hi2 : i < its1.length := by rw [← bk1.l]; exact hi
      have et : its1[i]? = some its1[i] := List.getElem?_eq_getElem hi2
      generalize its1[i] = t at et
      have mt := List.mem_of_getElem? et
      obtain ⟨g1, g2, g3⟩ := bk1.g i e t ee et
      have b2 := bk2.tk (Tk.same s5) (s5 _ _ bk2.d.at_)
      have ka := g3.tk (Tk.same s5)
      have st := ig1.sc t mt
      refine ⟨rfl, _, rfl, _, rfl, e.2.1, D2, nkI t.2, o2, xs2, rfl, rfl, ka.nk, b2.d, ?_⟩
      refine ⟨_, rfl, ?_⟩
      have tk1 : its1.take (i + 1) = its1.take i ++ [t] := take_snoc' et
      have fl : goesP its2 (its1.take (i + 1)) = goesP its2 (its1.take i) ++ if (its2.any fun u => decide (tOrd (te u) (te t) = 0)) = true then [] else [.goes (soI t.2) (ier t.2).2.1 (ier t.2).2.2.1] := by
        unfold goesP
        rw [tk1, List.filter_append, List.map_append, List.filter_cons, List.filter_nil]
        cases its2.any fun u => decide (tOrd (te u) (te t) = 0) <;> rfl
      have any_iff : (its2.any fun u => decide (tOrd (te u) (te t) = 0)) = true ↔ ∃ u ∈ its2, tEq (te u) (te t) := by
        rw [List.any_eq_true]
        refine exists_congr fun u => and_congr_right fun mu => ?_
        rw [decide_eq_true_iff]
        exact tOrd_zero (ig2.sc u mu) st
      cases z : its2.any fun u => decide (tOrd (te u) (te t) = 0) with
      | true =>
        obtain ⟨u, mu, eu⟩ := any_iff.mp z
        obtain ⟨j, ej⟩ := List.mem_iff_getElem?.mp mu
        rw [b2.at_ k2 ig2.sc ej (j := t.2) st ⟨eu.1.symm, eu.2.1.symm, eu.2.2.symm⟩]
        rw [z, if_pos rfl, List.append_nil] at fl
        exact iteF ⟨s5, acc, eG, by rw [fl]; exact ch, by omega⟩
      | false =>
        have no : ∀ u ∈ its2, ¬ tEq (ier t.2) (te u) := fun u mu w => by
          have := any_iff.mpr ⟨u, mu, w.1.symm, w.2.1.symm, w.2.2.symm⟩
          rw [z] at this
          cases this
        rw [b2.no ig2.sc (j := t.2) st no]
        rw [z, if_neg (by decide)] at fl
        refine iteT ⟨_, rfl, sz 2, fun p np => ⟨acc, Same.new np _ _ eG, small (m := 1000) (by omega) (by decide), ?_⟩⟩
        have tk6 : Tk K H5' (upd (upd H5' p (.tup [.str "goes", .ref e.2.1])) G (.lst (acc ++ [.ref p]))) := (Tk.same (Same.new np)).trans (Tk.put (Same.new np _ _ eG))
        refine ⟨Same.over (s5.trans (Same.new np)) nG, acc ++ [.ref p], upd_same, ?_, by rw [List.length_append]; exact Nat.succ_le_succ la⟩
        rw [fl]
        refine (ch.tk tk6).snoc ?_
        obtain ⟨a, r, ea, h1, h2, h3, h4, h5⟩ := ka
        cases ea
        have npG : p ≠ G := fun w => by rw [w, eG] at np; cases np
        refine ⟨p, e.2.1, r, rfl, SqT.of (by rw [upd_ne npG]; exact upd_same), ?_, tk6.f _ _ h2, h4, ?_, ?_, ?_, h3⟩
        · rw [← so_ier]
          exact tk6.f _ _ h1
        · have a := (ig1 t mt).at_
          cases hi3 : t.2 with
          | fact n r row => rw [hi3] at a; exact a.2.2.2
          | _ => exact Nat.zero_le _
        · cases t.2 <;> simp [soI]
        · cases t.2 <;> simp [soI, ier]
    · rw [bk1.l, List.take_length] at ch
      rw [goesP_any (its2 := its2) (os2 := os2) eq2, goesP_te os2 eq1] at ch
      rw [bk1.l] at la
      have bk1 := bk1.tk (Tk.same s5) (s5 _ _ bk1.d.at_)
      have bk2 := bk2.tk (Tk.same s5) (s5 _ _ bk2.d.at_)
      have ig1 := ig1.same s5
      have ig2 := ig2.same s5
      have s05 := s04.trans s5
      have fv1 := (v1.same s05).v
      have fv2 := (v2.same s05).v
      have te1 : ∀ {j : Nat} {t u : Addr × It}, its1[j]? = some t → os[j]? = some u → te t = te u := fun {j t u} a b => by
        have := congrArg (fun l => l[j]?) eq1
        simp only [List.getElem?_map, a, b, Option.map_some] at this
        exact Option.some.inj this
      have te2 : ∀ {j : Nat} {t u : Addr × It}, its2[j]? = some t → os2[j]? = some u → te t = te u := fun {j t u} a b => by
        have := congrArg (fun l => l[j]?) eq2
        simp only [List.getElem?_map, a, b, Option.map_some] at this
        exact Option.some.inj this
      have w1 : ∀ {j : Nat} {t : Addr × It}, its1[j]? = some t → ∃ v, fs[j]? = some v ∧ FvIt K H5 t.2 v ∧ FvOk v := fun {j t} a => by
        have hj := (List.getElem?_eq_some_iff.mp a).1
        have hv := fv1.1
        have eo : os[j]? = some (os[j]'(by omega)) := List.getElem?_eq_getElem _
        have ev : fs[j]? = some (fs[j]'(by omega)) := List.getElem?_eq_getElem _
        obtain ⟨f1, o1⟩ := fv1.2 j _ _ eo ev
        exact ⟨_, ev, f1.ier (te1 a eo).symm, o1⟩
      have w2 : ∀ {j : Nat} {t : Addr × It}, its2[j]? = some t → ∃ v, gs[j]? = some v ∧ FvIt K H5 t.2 v ∧ FvOk v := fun {j t} a => by
        have hj := (List.getElem?_eq_some_iff.mp a).1
        have hv := fv2.1
        have eo : os2[j]? = some (os2[j]'(by omega)) := List.getElem?_eq_getElem _
        have ev : gs[j]? = some (gs[j]'(by omega)) := List.getElem?_eq_getElem _
        obtain ⟨f1, o1⟩ := fv2.2 j _ _ eo ev
        exact ⟨_, ev, f1.ier (te2 a eo).symm, o1⟩
      -- the items that come
      refine ⟨_, rfl, D2, o2, xs2, rfl, bk2.d.at_, bk2.d.ok, fun M nM => ?_⟩
      refine lc_it walk_keysN (fun i H' => Same H5 H' ∧ ∃ acc : List V, H' M = some (.lst acc) ∧ ChgsAt K H' acc (comesL fs ((its2.zip gs).take i)) ∧ acc.length ≤ i) ⟨Same.new nM, [], upd_same, ⟨rfl, fun i e t a => by simp at a⟩, Nat.le_refl _⟩ (fun i H' _ ⟨s', _⟩ => s' _ _ bk2.d.at_) (fun i z H6 H6' hi ⟨s6, acc2, eM, ch2, la2⟩ yy => ?_) fun H6 ⟨s6, acc2, eM, ch2, la2⟩ => ?_
      · obtain ⟨rfl, e, ee, rfl⟩ := yy
        have hi2 : i < its2.length := by rw [← bk2.l]; exact hi
        have et : its2[i]? = some its2[i] := List.getElem?_eq_getElem hi2
        generalize its2[i] = t at et
        have mt := List.mem_of_getElem? et
        obtain ⟨g1, g2, g3⟩ := bk2.g i e t ee et
        obtain ⟨v, ev, fvt, okv⟩ := w2 et
        have b1 := bk1.tk (Tk.same s6) (s6 _ _ bk1.d.at_)
        have b2 := bk2.tk (Tk.same s6) (s6 _ _ bk2.d.at_)
        have ka := g3.tk (Tk.same s6)
        have st := ig2.sc t mt
        have at2 := b2.at_ k2 ig2.sc et (j := t.2) st ⟨rfl, rfl, rfl⟩
        obtain ⟨dt, gt⟩ := fv_full ((ig2 t mt).same s6).at_ okv (fvt.tk (Tk.same s6))
        have ez : (its2.zip gs).take (i + 1) = (its2.zip gs).take i ++ [(t, v)] := take_snoc' (List.getElem?_zip_eq_some.mpr ⟨et, ev⟩)
        have fl : comesL fs ((its2.zip gs).take (i + 1)) = comesL fs ((its2.zip gs).take i) ++ if newB fs v = true then [.comes t] else [] := by
          unfold comesL
          rw [ez, List.filter_append, List.map_append, List.filter_cons, List.filter_nil]
          cases newB fs v <;> rfl
        -- what was before
        have bef : ∃ (u : V) (d : PyData), (atN xs1 (nkI t.2)).getD .non = u ∧ Dp K H6' u d ∧ SeqAt.shaped d = true ∧ (!PyData.eqv d (fvFull v)) = newB fs v := by
          by_cases z : ∃ u ∈ its1, tEq (te t) (te u)
          · obtain ⟨u, mu, eu⟩ := z
            obtain ⟨j, ej⟩ := List.mem_iff_getElem?.mp mu
            obtain ⟨v', ev', fvu, okv'⟩ := w1 ej
            obtain ⟨du, gu⟩ := fv_full ((ig1 u mu).same s6).at_ okv' (fvu.tk (Tk.same s6))
            refine ⟨.ref u.1, fvFull v', by rw [b1.at_ k1 ig1.sc ej (j := t.2) st eu]; rfl, du, gu.shaped (by decide), ?_⟩
            unfold newB
            congr 1
            rw [Bool.eq_iff_iff, List.any_eq_true]
            refine ⟨fun h => ⟨v', List.mem_of_getElem? ev', h⟩, fun ⟨w', mw, h⟩ => ?_⟩
            obtain ⟨j', ej'⟩ := List.mem_iff_getElem?.mp mw
            have hj' := (List.getElem?_eq_some_iff.mp ej').1
            have hfl := fv1.1
            have eo : os[j']? = some (os[j']'(by omega)) := List.getElem?_eq_getElem _
            obtain ⟨f1, ow⟩ := fv1.2 j' _ _ eo ej'
            have := full_inj ow okv h
            subst this
            have k' := f1.key fvt
            have eu' : its1[j']? = some (its1[j']'(by omega)) := List.getElem?_eq_getElem _
            have := ksrt_at k1 ig1.sc ej eu' (by
              rw [te1 eu' eo]
              exact ⟨eu.1.symm.trans k'.1.symm, eu.2.1.symm.trans k'.2.1.symm, eu.2.2.symm.trans k'.2.2.symm⟩)
            subst this
            rw [ev'] at ej'
            cases ej'
            exact h
          · refine ⟨.non, .none, by rw [b1.no ig1.sc (j := t.2) st (fun u mu w => z ⟨u, mu, w⟩)]; rfl, .non, by decide +kernel, ?_⟩
            have e0 : PyData.eqv .none (fvFull v) = false := by cases v <;> simp [fvFull, PyData.eqv]
            rw [e0]
            unfold newB
            congr 1
            symm
            rw [Bool.eq_false_iff]
            intro h
            obtain ⟨w', mw, h⟩ := List.any_eq_true.mp h
            obtain ⟨j', ej'⟩ := List.mem_iff_getElem?.mp mw
            have hj' := (List.getElem?_eq_some_iff.mp ej').1
            have hfl := fv1.1
            have eo : os[j']? = some (os[j']'(by omega)) := List.getElem?_eq_getElem _
            obtain ⟨f1, ow⟩ := fv1.2 j' _ _ eo ej'
            have := full_inj ow okv h
            subst this
            have k' := f1.key fvt
            have eu' : its1[j']? = some (its1[j']'(by omega)) := List.getElem?_eq_getElem _
            refine z ⟨_, List.mem_of_getElem? eu', ?_⟩
            rw [te1 eu' eo]
            exact ⟨k'.1.symm, k'.2.1.symm, k'.2.2.symm⟩
        obtain ⟨u, d, eu, du, sd, en⟩ := bef
        refine ⟨rfl, _, rfl, D, rfl, ⟨o1, xs1, b1.d.at_, b1.d.ok⟩, _, rfl, e.2.1, nkI t.2, o1, xs1, rfl, ka.nk, b1.d, ?_⟩
        rw [eu]
        refine ⟨_, rfl, _, rfl, D2, e.2.1, nkI t.2, o2, xs2, .ref t.1, rfl, rfl, ka.nk, b2.d, at2, ?_⟩
        refine ⟨d, fvFull v, du, dt, sd, gt.shaped (by decide), _, rfl, ?_⟩
        rw [en]
        cases z : newB fs v with
        | false =>
          rw [z, if_neg (by decide), List.append_nil] at fl
          exact iteF ⟨s6, acc2, eM, by rw [fl]; exact ch2, by omega⟩
        | true =>
          rw [z, if_pos rfl] at fl
          refine iteT ⟨_, rfl, _, rfl, D2, e.2.1, nkI t.2, o2, xs2, .ref t.1, rfl, rfl, ka.nk, b2.d, at2, sz 2, fun p np => ⟨acc2, Same.new np _ _ eM, small (m := 1000) (by omega) (by decide), ?_⟩⟩
          have tk6 : Tk K H6' (upd (upd H6' p (.tup [.str "comes", .ref t.1])) M (.lst (acc2 ++ [.ref p]))) := (Tk.same (Same.new np)).trans (Tk.put (Same.new np _ _ eM))
          refine ⟨Same.over (s6.trans (Same.new np)) nM, acc2 ++ [.ref p], upd_same, ?_, by rw [List.length_append]; exact Nat.succ_le_succ la2⟩
          rw [fl]
          refine (ch2.tk tk6).snoc ?_
          have npM : p ≠ M := fun w => by rw [w, eM] at np; cases np
          exact ⟨p, rfl, SqT.of (by rw [upd_ne npM]; exact upd_same), ((ig2 t mt).same s6).tk tk6⟩
      · have lz : (its2.zip gs).length = its2.length := by rw [List.length_zip]; have := fv2.1; omega
        rw [bk2.l, ← lz, List.take_length] at ch2
        rw [bk2.l] at la2
        refine ⟨_, rfl, _, rfl, G, M, acc, acc2, rfl, rfl, s6 _ _ eG, eM, sz _ (by omega), fun p np => ?_⟩
        have sp := Same.new (o := .lst (acc ++ acc2)) np
        have s6p := s6.trans sp
        refine q p (acc ++ acc2) its2 _ (s05.trans s6p) ((s05.trans s6).free np) upd_same (ig2.same s6p) eq2 ?_ (by rw [List.length_append]; omega)
        exact ((ch.tk (Tk.same s6)).app ch2).tk (Tk.same sp)
end
end K1
namespace K1
open PySem PySem.Spec PyProof.Rows L2 Ow Tlz
/-! _law_same of numbers, texts and tuples of such, whatever they are -/
def spIsIntG : Sp := fun vs H Q _ => ∃ v : V, vs = [v] ∧ ((∃ i, v = .int i ∧ Q (.bl true) H) ∨ ∃ z, v = .str z ∧ Q (.bl false) H)
def SkS (x y : V) (b : Bool) : Prop := (∃ i j, x = .int i ∧ y = .int j ∧ b = decide (i = j)) ∨ (∃ z z', x = .str z ∧ y = .str z' ∧ b = decide (z = z')) ∨ (∃ i z, x = .int i ∧ y = .str z ∧ b = false) ∨ ∃ z i, x = .str z ∧ y = .int i ∧ b = false
def SkD (K : PySem.W.Frag) (H : Hp) : Nat → V → V → Bool → Prop
  | 0 => SkS
  | n + 1 => fun x y b => SkS x y b ∨ ∃ (p q : Addr) (xs ys : List V) (bs : Nat → Bool), x = .ref p ∧ y = .ref q ∧ SqT K H p xs ∧ SqT K H q ys ∧ ys.length ≤ 1000 ∧ ((xs.length ≠ ys.length ∧ b = false) ∨ (xs.length = ys.length ∧ (∀ (i : Nat) u v, xs[i]? = some u → ys[i]? = some v → SkD K H n u v (bs i)) ∧ b = (List.range ys.length).all bs))
theorem SkD.same {K : PySem.W.Frag} {H H' : Hp} (s : Same H H') : ∀ {n : Nat} {x y : V} {b : Bool}, SkD K H n x y b → SkD K H' n x y b
  | 0, _, _, _, h => h
  | n + 1, x, y, b, h => by
    rcases h with h | ⟨p, q, xs, ys, bs, e1, e2, h1, h2, l, h⟩
    · exact .inl h
    · refine .inr ⟨p, q, xs, ys, bs, e1, e2, Tk.same s _ _ h1, Tk.same s _ _ h2, l, ?_⟩
      rcases h with h | ⟨a, b, c⟩
      · exact .inl h
      · exact .inr ⟨a, fun i u v eu ev => (b i u v eu ev).same s, c⟩
def spSk (K : PySem.W.Frag) : Nat → Sp
  | 0 => fun _ _ _ _ => False
  | n + 1 => fun vs H Q _ => ∃ (x y : V) (b : Bool), vs = [x, y] ∧ SkD K H n x y b ∧ Mak H Q fun z _ => z = .bl b
section
variable {P : Program} {w : World} {K : PySem.W.Frag} {mg : Str → Option Value} {base : Heap}
theorem ok_isintG {f : Addr} {fd : FuncData} (F : Fun K "_law_is_integer" "_law_is_integer" s_law_is_integer f fd) (T : Bl mg) : FnOk P w K mg base CX0 1 f fd ["actual"] spIsIntG := by
  refine F.ok sc_law_is_integer (fun vs H Q E h => ?_) (fun cdv A outer s0 H vs Q E hr h => ?_)
  · obtain ⟨i, rfl, _⟩ := h
    rfl
  · obtain ⟨v, rfl, h⟩ := h
    refine ⟨_, (pss_one (ps_ret (pe_and (pe_callB call_isi (by rfl) T.isinstance (by decide +kernel) (pa_cons (pv 0) (pa_cons (pe_ty "int" (by rfl) T.int (by decide +kernel)) pa_nil))) (pe_one (pe_not (pe_callB call_isi (by rfl) T.isinstance (by decide +kernel) (pa_cons (pv 0) (pa_cons (pe_ty "bool" (by rfl) T.bool (by decide +kernel)) pa_nil)))))))), ?_⟩
    rcases h with ⟨i, rfl, q⟩ | ⟨z, rfl, q⟩
    · refine ⟨_, rfl, _, _, .type "int", .type "int", true, rfl, .ty _, .base (.int i), kit_ty (by decide +kernel), ?_⟩
      refine ⟨_, rfl, iteT ?_⟩
      refine ⟨_, rfl, _, _, .type "int", .type "bool", false, rfl, .ty _, .base (.int i), kit_ty (by decide +kernel), ?_⟩
      exact ⟨_, rfl, q⟩
    · refine ⟨_, rfl, _, _, .type "str", .type "int", false, rfl, .ty _, .base (.str z), kit_ty (by decide +kernel), ?_⟩
      exact ⟨_, rfl, iteF q⟩
theorem ok_skZ {f : Addr} {fd : FuncData} (F : Fun K "_law_same" "_law_same" s_law_same f fd) : FnOk P w K mg base CX0 1 f fd ["actual", "expected"] (spSk K 0) :=
  F.ok sc_law_same (fun vs H Q E h => h.elim) (fun cdv A outer s0 H vs Q E hr h => h.elim)
theorem ok_sk {f : Addr} {fd : FuncData} (F : Fun K "_law_same" "_law_same" s_law_same f fd) (T : Bl mg) {n : Nat}
    (D_law_is_integer : Kn P w K mg base 1 "_law_is_integer" ["actual"] spIsIntG)
    (D_law_same : Kn P w K mg base (n + 1) "_law_same" ["actual", "expected"] (spSk K n)) :
    FnOk P w K mg base CX0 (n + 2) f fd ["actual", "expected"] (spSk K (n + 1)) := by
  refine F.ok sc_law_same (fun vs H Q E h => ?_) (fun cdv A outer s0 H vs Q E hr h => ?_)
  · obtain ⟨x, y, d, rfl, _⟩ := h
    rfl
  · obtain ⟨x, y, b, rfl, hd, q⟩ := h
    refine ⟨_, (pss_cons (ps_if (pt_val (pe_callB call_isiT (by rfl) T.isinstance (by decide +kernel) (pa_cons (pv 1) (pa_cons (pe_tup (pa_cons (pe_ty "list" (by rfl) T.list (by decide +kernel)) (pa_cons (pe_ty "tuple" (by rfl) T.tuple (by decide +kernel)) pa_nil))) pa_nil)))) (pss_cons (ps_if (PW.pt (pw_or (pt_cmpR op_ne (pe_callB call_isi (by rfl) T.isinstance (by decide +kernel) (pa_cons (pv 1) (pa_cons (pe_ty "list" (by rfl) T.list (by decide +kernel)) pa_nil))) (pe_callB call_isi (by rfl) T.isinstance (by decide +kernel) (pa_cons (pv 0) (pa_cons (pe_ty "list" (by rfl) T.list (by decide +kernel)) pa_nil))) (nomark _)) (pw_or1 (pt_cmpR op_ne (pe_callB call_isi (by rfl) T.isinstance (by decide +kernel) (pa_cons (pv 1) (pa_cons (pe_ty "tuple" (by rfl) T.tuple (by decide +kernel)) pa_nil))) (pe_callB call_isi (by rfl) T.isinstance (by decide +kernel) (pa_cons (pv 0) (pa_cons (pe_ty "tuple" (by rfl) T.tuple (by decide +kernel)) pa_nil))) (nomark _))))) (pss_one (ps_ret pe_bl)) pss_nil)
      (pss_cons (ps_if (pt_cmpR op_ne (pe_callB call_len_seq (by rfl) T.len PySem.boot_len (pa_cons (pv 0) pa_nil)) (pe_callB call_len_seq (by rfl) T.len PySem.boot_len (pa_cons (pv 1) pa_nil)) (nomark _)) (pss_one (ps_ret pe_bl)) pss_nil)
      (pss_cons (ps_for PassesOwn.never rfl (pi_range1 (by rfl) T.range (pa_cons (pe_callB call_len_seq (by rfl) T.len PySem.boot_len (pa_cons (pv 1) pa_nil)) pa_nil)) (pg_name (i := 2) sc_law_same.nd rfl (.inl rfl)) (pss_one (ps_if (pt_not (pt_val (pe_kn D_law_same hr (pa_cons (pe_ix ix_seq (pv 0) (pv 2) (fun _ _ => rfl)) (pa_cons (pe_ix ix_seq (pv 1) (pv 2) (fun _ _ => rfl)) pa_nil)) (Nat.le_refl _)))) (pss_one (ps_ret pe_bl)) pss_nil)))
      (pss_one (ps_ret pe_bl))))) pss_nil)
      (pss_cons (ps_if (pt_cmpR op_isN (pv 1) pe_non (nomark _)) (pss_one (ps_ret (pe_cmpR op_isN (pv 0) pe_non (nomark _)))) pss_nil)
      (pss_cons (ps_if (pt_val (pe_callB call_isi (by rfl) T.isinstance (by decide +kernel) (pa_cons (pv 1) (pa_cons (pe_ty "bool" (by rfl) T.bool (by decide +kernel)) pa_nil)))) (pss_one (ps_ret (pe_and (pe_callB call_isi (by rfl) T.isinstance (by decide +kernel) (pa_cons (pv 0) (pa_cons (pe_ty "bool" (by rfl) T.bool (by decide +kernel)) pa_nil))) (pe_one (pe_cmpR op_eq (pv 0) (pv 1) (nomark _)))))) pss_nil)
      (pss_cons (ps_if (pt_val (pe_callB call_isi (by rfl) T.isinstance (by decide +kernel) (pa_cons (pv 1) (pa_cons (pe_ty "int" (by rfl) T.int (by decide +kernel)) pa_nil)))) (pss_one (ps_ret (pe_and (pe_kn D_law_is_integer hr (pa_cons (pv 0) pa_nil) (by omega)) (pe_one (pe_cmpR op_eq (pv 0) (pv 1) (nomark _)))))) pss_nil)
      (pss_one (ps_ret (pe_and (pe_callB call_isi (by rfl) T.isinstance (by decide +kernel) (pa_cons (pv 0) (pa_cons (pe_ty "str" (by rfl) T.str (by decide +kernel)) pa_nil))) (pe_one (pe_cmpR op_eq (pv 0) (pv 1) (nomark _)))))))))), ?_⟩
    have sc : SkS x y b ∨ (∃ m, n = m + 1 ∧ ∃ (p q : Addr) (xs ys : List V) (bs : Nat → Bool), x = .ref p ∧ y = .ref q ∧ SqT K H p xs ∧ SqT K H q ys ∧ ys.length ≤ 1000 ∧ ((xs.length ≠ ys.length ∧ b = false) ∨ (xs.length = ys.length ∧ (∀ (i : Nat) u v, xs[i]? = some u → ys[i]? = some v → SkD K H m u v (bs i)) ∧ b = (List.range ys.length).all bs))) := by
      cases n with
      | zero => exact .inl hd
      | succ n =>
        rcases hd with h | h
        · exact .inl h
        · exact .inr ⟨n, rfl, h⟩
    rcases sc with (⟨i, j, rfl, rfl, rfl⟩ | ⟨z, z', rfl, rfl, rfl⟩ | ⟨i, z, rfl, rfl, rfl⟩ | ⟨z, i, rfl, rfl, rfl⟩) | ⟨m, rfl, p, r, xs, ys, bs, rfl, rfl, sx, sy, ly, hb⟩
    · refine ⟨_, rfl, sz 2, fun t nt => ?_⟩
      refine ⟨_, _, _, _, _, false, rfl, upd_same, .cons (.ty "list") (.cons (.ty "tuple") .nil), .base (.int j), kitI, ?_⟩
      refine ⟨_, rfl, iteF ?_⟩
      refine ⟨_, rfl, rfl, _, rfl, ite2 (fun e => absurd e (by simp)) (fun _ => ?_)⟩
      refine ⟨_, rfl, _, _, .type "int", .type "bool", false, rfl, .ty _, .base (.int j), kit_ty (by decide +kernel), ?_⟩
      refine ⟨_, rfl, iteF ?_⟩
      refine ⟨_, rfl, _, _, .type "int", .type "int", true, rfl, .ty _, .base (.int j), kit_ty (by decide +kernel), ?_⟩
      refine ⟨_, rfl, iteT ?_⟩
      refine ⟨_, rfl, _, rfl, .inl ⟨i, rfl, ?_⟩⟩
      refine ⟨_, rfl, iteT ⟨_, rfl, _, rfl, rfl, q _ _ (by congr 1; rw [decide_eq_decide]; exact ⟨fun e => V.int.inj e, fun e => by rw [e]⟩) (Same.new nt)⟩⟩
    · refine ⟨_, rfl, sz 2, fun t nt => ?_⟩
      refine ⟨_, _, _, _, _, false, rfl, upd_same, .cons (.ty "list") (.cons (.ty "tuple") .nil), .base (.str z'), kitS, ?_⟩
      refine ⟨_, rfl, iteF ?_⟩
      refine ⟨_, rfl, rfl, _, rfl, ite2 (fun e => absurd e (by simp)) (fun _ => ?_)⟩
      refine ⟨_, rfl, _, _, .type "str", .type "bool", false, rfl, .ty _, .base (.str z'), kit_ty (by decide +kernel), ?_⟩
      refine ⟨_, rfl, iteF ?_⟩
      refine ⟨_, rfl, _, _, .type "str", .type "int", false, rfl, .ty _, .base (.str z'), kit_ty (by decide +kernel), ?_⟩
      refine ⟨_, rfl, iteF ?_⟩
      refine ⟨_, rfl, _, _, .type "str", .type "str", true, rfl, .ty _, .base (.str z), kit_ty (by decide +kernel), ?_⟩
      refine ⟨_, rfl, iteT ?_⟩
      exact ⟨_, rfl, _, rfl, rfl, q _ _ (by congr 1; rw [decide_eq_decide]; exact ⟨fun e => V.str.inj e, fun e => by rw [e]⟩) (Same.new nt)⟩
    · refine ⟨_, rfl, sz 2, fun t nt => ?_⟩
      refine ⟨_, _, _, _, _, false, rfl, upd_same, .cons (.ty "list") (.cons (.ty "tuple") .nil), .base (.str z), kitS, ?_⟩
      refine ⟨_, rfl, iteF ?_⟩
      refine ⟨_, rfl, rfl, _, rfl, ite2 (fun e => absurd e (by simp)) (fun _ => ?_)⟩
      refine ⟨_, rfl, _, _, .type "str", .type "bool", false, rfl, .ty _, .base (.str z), kit_ty (by decide +kernel), ?_⟩
      refine ⟨_, rfl, iteF ?_⟩
      refine ⟨_, rfl, _, _, .type "str", .type "int", false, rfl, .ty _, .base (.str z), kit_ty (by decide +kernel), ?_⟩
      refine ⟨_, rfl, iteF ?_⟩
      refine ⟨_, rfl, _, _, .type "int", .type "str", false, rfl, .ty _, .base (.int i), kit_ty (by decide +kernel), ?_⟩
      exact ⟨_, rfl, iteF (q _ _ rfl (Same.new nt))⟩
    · refine ⟨_, rfl, sz 2, fun t nt => ?_⟩
      refine ⟨_, _, _, _, _, false, rfl, upd_same, .cons (.ty "list") (.cons (.ty "tuple") .nil), .base (.int i), kitI, ?_⟩
      refine ⟨_, rfl, iteF ?_⟩
      refine ⟨_, rfl, rfl, _, rfl, ite2 (fun e => absurd e (by simp)) (fun _ => ?_)⟩
      refine ⟨_, rfl, _, _, .type "int", .type "bool", false, rfl, .ty _, .base (.int i), kit_ty (by decide +kernel), ?_⟩
      refine ⟨_, rfl, iteF ?_⟩
      refine ⟨_, rfl, _, _, .type "int", .type "int", true, rfl, .ty _, .base (.int i), kit_ty (by decide +kernel), ?_⟩
      refine ⟨_, rfl, iteT ?_⟩
      refine ⟨_, rfl, _, rfl, .inr ⟨z, rfl, ?_⟩⟩
      exact ⟨_, rfl, iteF (q _ _ rfl (Same.new nt))⟩
    · refine ⟨_, rfl, sz 2, fun t nt => ?_⟩
      have s1 := Same.new (o := .tup [.ty "list", .ty "tuple"]) nt
      have t1 : Tk K H _ := Tk.same s1
      have tx := tupT2 (K := K) (t1 _ _ sx)
      have ty := tupT2 (K := K) (t1 _ _ sy)
      refine ⟨_, _, _, _, _, true, rfl, upd_same, .cons (.ty "list") (.cons (.ty "tuple") .nil), ty, kitT, ?_⟩
      refine ⟨_, rfl, iteT ?_⟩
      refine ⟨_, rfl, _, _, .type "tuple", .type "list", false, rfl, .ty _, ty, kit_ty (by decide +kernel), ?_⟩
      refine ⟨_, rfl, _, _, .type "tuple", .type "list", false, rfl, .ty _, tx, kit_ty (by decide +kernel), ?_⟩
      refine ⟨rfl, _, rfl, ?_⟩
      refine iteF ?_
      refine ⟨_, rfl, _, _, .type "tuple", .type "tuple", true, rfl, .ty _, ty, kit_ty (by decide +kernel), ?_⟩
      refine ⟨_, rfl, _, _, .type "tuple", .type "tuple", true, rfl, .ty _, tx, kit_ty (by decide +kernel), ?_⟩
      refine ⟨rfl, _, rfl, ?_⟩
      refine iteF ?_
      refine ⟨_, rfl, p, xs, rfl, .inr (t1 _ _ sx), _, rfl, r, ys, rfl, .inr (t1 _ _ sy), rfl, _, rfl, ?_⟩
      rcases hb with ⟨ne, rfl⟩ | ⟨el, hs, rfl⟩
      · refine ite2 (fun _ => q _ _ rfl s1) (fun e => ?_)
        refine absurd ?_ e
        have : ¬ ((xs.length : Int) = (ys.length : Int)) := by omega
        simpa using this
      rw [el]
      refine iteNS rfl ?_
      refine ⟨_, rfl, r, ys, rfl, .inr (t1 _ _ sy), (ys.length : Int), rfl, by omega, by omega, for_range (lo := 0) (n := (ys.length : Int).toNat) (fun i σ H4 => ∃ y2 : Option V, σ = [some (.ref p), some (.ref r), y2] ∧ Same H H4 ∧ ∀ j, j < i → bs j = true)
        ⟨none, rfl, s1, fun j hj => absurd hj (Nat.not_lt_zero _)⟩ (fun i σ H4 hi4 hP => ?_) (fun σ H4 hP => ?_)⟩
      · obtain ⟨y2, rfl, sm, ab⟩ := hP
        have il : i < ys.length := by omega
        have eu : xs[i]? = some (xs[i]'(by omega)) := List.getElem?_eq_getElem _
        have ev : ys[i]? = some ys[i] := List.getElem?_eq_getElem il
        have t4 : Tk K H H4 := Tk.same sm
        refine ⟨_, rfl, _, rfl, (.inr (.inl ⟨p, xs, _, _, rfl, rfl, (t4 _ _ sx), at_of (j := i) (by omega) eu, _, rfl, _, rfl, (.inr (.inl ⟨r, ys, _, _, rfl, rfl, (t4 _ _ sy), at_of (j := i) (by omega) ev, _, _, bs i, rfl, (hs i _ _ eu ev).same sm, ?_⟩))⟩))⟩
        rintro z H5 rfl s5
        refine ⟨_, rfl, ?_⟩
        cases eb : bs i with
        | true =>
          refine iteF ⟨_, rfl, sm.trans s5, fun j hj => ?_⟩
          by_cases z : j = i
          · rw [z]; exact eb
          · exact ab j (by omega)
        | false =>
          refine iteT (q _ _ ?_ (sm.trans s5))
          congr 1
          symm
          rw [List.all_eq_false]
          exact ⟨i, List.mem_range.mpr il, by rw [eb]; decide⟩
      · obtain ⟨y2, rfl, sm, ab⟩ := hP
        refine q _ _ ?_ sm
        congr 1
        symm
        rw [List.all_eq_true]
        exact fun j mj => ab j (by have := List.mem_range.mp mj; omega)
end
end K1
namespace K1
open PySem PySem.Spec PyProof.Rows L2 Ow Tlz
abbrev s_law_changed : Stmt := topS 35
abbrev N_law_changed : List Str := ["ordered", "changes", "word", "what", "item"]
theorem sc_law_changed : FnScope N_law_changed ["ordered", "changes"] (defScope s_law_changed) := ⟨rfl, rfl, rfl, by decide +kernel, rfl, by decide +kernel, by decide +kernel⟩
theorem sks_of {x y : V} (hx : Scal x) (hy : Scal y) : SkS x y (decide (x = y)) := by
  rcases hx with ⟨i, rfl, _⟩ | ⟨z, rfl, _⟩ <;> rcases hy with ⟨j, rfl, _⟩ | ⟨z', rfl, _⟩
  · exact .inl ⟨i, j, rfl, rfl, by rw [decide_eq_decide]; exact ⟨fun e => V.int.inj e, fun e => by rw [e]⟩⟩
  · exact .inr (.inr (.inl ⟨i, z', rfl, rfl, decide_eq_false (fun e => by cases e)⟩))
  · exact .inr (.inr (.inr ⟨z, j, rfl, rfl, decide_eq_false (fun e => by cases e)⟩))
  · exact .inr (.inl ⟨z, z', rfl, rfl, by rw [decide_eq_decide]; exact ⟨fun e => V.str.inj e, fun e => by rw [e]⟩⟩)
theorem all_eq {xs ys : List V} (l : xs.length = ys.length) : ((List.range ys.length).all fun i => decide (xs[i]? = ys[i]?)) = decide (xs = ys) := by
  rw [Bool.eq_iff_iff, List.all_eq_true, decide_eq_true_iff]
  constructor
  · intro h
    apply List.ext_getElem?
    intro i
    by_cases z : i < ys.length
    · exact of_decide_eq_true (h i (List.mem_range.mpr z))
    · rw [List.getElem?_eq_none (by omega), List.getElem?_eq_none (by omega)]
  · rintro rfl i _
    exact decide_eq_true rfl
theorem skd_row {K : PySem.W.Frag} {H : Hp} {p q : Addr} {xs ys : List V} (h1 : SqT K H p xs) (h2 : SqT K H q ys) (sx : ∀ x ∈ xs, Scal x) (sy : ∀ y ∈ ys, Scal y) (l : ys.length ≤ 1000) : SkD K H 1 (.ref p) (.ref q) (decide (xs = ys)) := by
  refine .inr ⟨p, q, xs, ys, fun i => decide (xs[i]? = ys[i]?), rfl, rfl, h1, h2, l, ?_⟩
  by_cases z : xs.length = ys.length
  · refine .inr ⟨z, fun i u v eu ev => ?_, (all_eq z).symm⟩
    have e : decide (xs[i]? = ys[i]?) = decide (u = v) := by rw [eu, ev, decide_eq_decide]; exact ⟨fun e => Option.some.inj e, fun e => by rw [e]⟩
    show SkS u v (decide (xs[i]? = ys[i]?))
    rw [e]
    exact sks_of (sx u (List.mem_of_getElem? eu)) (sy v (List.mem_of_getElem? ev))
  · exact .inl ⟨z, decide_eq_false (fun e => z (by rw [e]))⟩
theorem skd_key {K : PySem.W.Frag} {H : Hp} {p q r1 r2 : Addr} {s s' : Int} {n n' : Str} {xs ys : List V} (h1 : SqT K H p [.int s, .str n, .ref r1]) (h2 : SqT K H q [.int s', .str n', .ref r2]) (g1 : SqT K H r1 xs) (g2 : SqT K H r2 ys) (sx : ∀ x ∈ xs, Scal x) (sy : ∀ y ∈ ys, Scal y) (l : ys.length ≤ 1000) :
    SkD K H 2 (.ref p) (.ref q) (decide (s = s') && (decide (n = n') && decide (xs = ys))) := by
  refine .inr ⟨p, q, _, _, fun i => if i = 0 then decide (s = s') else if i = 1 then decide (n = n') else decide (xs = ys), rfl, rfl, h1, h2, by show 3 ≤ 1000; decide, .inr ⟨rfl, fun i u v eu ev => ?_, ?_⟩⟩
  · match i, eu, ev with
    | 0, eu, ev => cases eu; cases ev; exact .inl (.inl ⟨s, s', rfl, rfl, rfl⟩)
    | 1, eu, ev => cases eu; cases ev; exact .inl (.inr (.inl ⟨n, n', rfl, rfl, rfl⟩))
    | 2, eu, ev => cases eu; cases ev; exact skd_row g1 g2 sx sy l
    | i + 3, eu, ev => cases eu
  · show _ = (List.range 3).all _
    rw [show List.range 3 = [0, 1, 2] from rfl]
    simp
theorem key_ord {t : Addr × It} {s : Nat} {n : Str} {row : List V} (st : tSc (te t)) (sr : ∀ x ∈ row, Scal x) : (decide ((ier t.2).1 = (s : Nat)) && (decide ((ier t.2).2.1 = n) && decide ((ier t.2).2.2.1 = row))) = decide (tOrd (te t) (chgK s n row) = 0) := by
  rw [Bool.eq_iff_iff, Bool.and_eq_true, Bool.and_eq_true, decide_eq_true_iff, decide_eq_true_iff, decide_eq_true_iff, decide_eq_true_iff, tOrd_zero st (show tSc (chgK s n row) from sr)]
  rfl
theorem step_len (os : Its) (c : Chg) : (stepC os c).length ≤ os.length + 1 := by
  cases c with
  | comes t => exact plc_len os t
  | goes s n row => exact Nat.le_trans (List.length_filter_le _ _) (Nat.le_succ _)
theorem fold_len : ∀ (cs : List Chg) (os : Its), (cs.foldl stepC os).length ≤ os.length + cs.length
  | [], os => Nat.le_refl _
  | c :: cs, os => by
    rw [List.foldl_cons]
    have := fold_len cs (stepC os c)
    have := step_len os c
    rw [List.length_cons]
    omega
def spLChanged (K : PySem.W.Frag) : Sp := fun vs H Q _ => ∃ (o cl : Addr) (os : Its) (xs : List V) (cs : List Chg), vs = [.ref o, .ref cl] ∧ SqL K H o (irf os) ∧ ItsG K H os ∧ SqL K H cl xs ∧ ChgsAt K H xs cs ∧ cs.length ≤ 40 ∧ os.length ≤ 40 ∧
  ∀ (p : Addr) H', Same H H' → SqL K H' p (irf (cs.foldl stepC os)) → ItsG K H' (cs.foldl stepC os) → Q (.ref p) H'
section
variable {P : Program} {w : World} {K : PySem.W.Frag} {mg : Str → Option Value} {base : Heap}
theorem ok_lchanged {f : Addr} {fd : FuncData} (F0 : Fun K "_law_changed" "_law_changed" s_law_changed f fd) (T0 : Bl mg) (D_law_key : Kn P w K mg base 1 "_law_key" ["item"] (spLKey K)) (D_law_placed : Kn P w K mg base 4 "_law_placed" ["items", "item"] (spPlaced K)) (D_law_same : Kn P w K mg base 4 "_law_same" ["actual", "expected"] (spSk K 3)) :
    FnOk P w K mg base CX0 5 f fd ["ordered", "changes"] (spLChanged K) := by
  refine F0.ok sc_law_changed (fun vs H Q E h => ?_) (fun cdv A outer s0 H vs Q E hr h => ?_)
  · obtain ⟨o, cl, os, xs, cs, rfl, _⟩ := h
    rfl
  · obtain ⟨o, cl, os, xs, cs, rfl, ho, og, hcl, ch, lc, lo, q⟩ := h
    refine ⟨_, (pss_cons (ps_for PassesOwn.never rfl (pi_list (pv 1)) (pg_tup rfl (pgs_cons (pg_name (i := 2) sc_law_changed.nd rfl (.inl rfl)) (pgs_cons (pg_name (i := 3) sc_law_changed.nd rfl (.inr rfl)) pgs_nil))) (pss_one (ps_if (pt_cmpR op_eq (pv 2) pe_str (nomark _)) (pss_one (ps_set (i := 0) sc_law_changed.nd rfl (.inl rfl) (pe_kn D_law_placed hr (pa_cons (pv 0) (pa_cons (pv 3) pa_nil))))) (pss_one (ps_setLc (i := 0) (own := [("item", 4)]) (g := gName 4) rfl sc_law_changed.nd rfl rfl (sw_true rfl rfl rfl (by decide +kernel)) (pi_list (pv 0)) (blkOk_by (own := [("item", 4)]) (N := N_law_changed) (sc := defScope s_law_changed) (by decide +kernel)) (fun _ _ _ _ _ => pg_name (i := 4) sc_law_changed.nd rfl (Or.inl rfl)) (fun _ _ _ _ _ => (pts_one (pt_not (pt_val (pe_kn D_law_same hr (pa_cons (pe_kn D_law_key hr (pa_cons (pv 4) pa_nil)) (pa_cons (pv 3) pa_nil))))))) (fun _ _ _ _ _ => (pv 4)))))))
      (pss_one (ps_ret (pv 0)))), ?_⟩
    have lx := ch.1
    refine ⟨_, rfl, cl, rfl, ⟨_, hcl⟩, for_list (K := K) (a := cl) (xs := xs) (fun i σ H4 => ∃ (o' : Addr) (y2 y3 : Option V), σ = [some (.ref o'), some (.ref cl), y2, y3, none] ∧ Same H H4 ∧ SqL K H4 o' (irf ((cs.take i).foldl stepC os)) ∧ ItsG K H4 ((cs.take i).foldl stepC os))
      ⟨o, none, none, rfl, Same.refl _, ho, og⟩ (fun i σ H4 _ hP => ?_) (fun i y σ H4 hi hP => ?_) (fun σ H4 hP => ?_)⟩
    · obtain ⟨_, _, _, _, s4, _⟩ := hP
      exact s4.seq hcl
    · obtain ⟨o', y2, y3, rfl, s4, ho', og'⟩ := hP
      have il : i < cs.length := by have := (List.getElem?_eq_some_iff.mp hi).1; omega
      have ec : cs[i]? = some cs[i] := List.getElem?_eq_getElem il
      generalize cs[i] = c at ec
      have ca := (ch.2 i y c hi ec).tk (Tk.same s4)
      have et : (cs.take (i + 1)).foldl stepC os = stepC ((cs.take i).foldl stepC os) c := by
        rw [List.take_add_one, ec, List.foldl_append]
        rfl
      have fl := fold_len (cs.take i) os
      rw [List.length_take] at fl
      rw [et]
      generalize (cs.take i).foldl stepC os = ps at ho' og' fl ⊢
      cases c with
      | comes t =>
        obtain ⟨a, rfl, h1, h2⟩ := ca
        refine ⟨a, _, rfl, h1, rfl, _, _, rfl, _, _, rfl, rfl, ?_⟩
        refine ⟨_, rfl, rfl, _, rfl, ite2 (fun _ => ?_) (fun e => absurd (decide_eq_true rfl) e)⟩
        refine ⟨_, rfl, _, rfl, o', t.1, t.2, ps, rfl, ho', og', h2, by omega, fun p7 H7 s7 n7 e7 => ?_⟩
        refine ⟨p7, _, _, rfl, s4.trans s7, SqL.of e7, fun u m => ?_⟩
        rcases (plc_mem og'.sc h2.sc).mp m with z | z
        · rw [z]; exact h2.same s7
        · exact (og' u z.1).same s7
      | goes s n row =>
        obtain ⟨a, k, r, rfl, h1, h2, h3, h4, h5, h6, h7, h8⟩ := ca
        refine ⟨a, _, rfl, h1, rfl, _, _, rfl, _, _, rfl, rfl, ?_⟩
        refine ⟨_, rfl, rfl, _, rfl, ite2 (fun e => absurd e (by decide +kernel)) (fun _ => ?_)⟩
        refine ⟨_, rfl, o', rfl, ⟨_, ho'⟩, fun D nD => ?_⟩
        refine lc_it (walk_list (K := K) (a := o') (xs := irf ps)) (fun j H' => Same H4 H' ∧ H' D = some (.lst (irf (rmv (ps.take j) (chgK s n row))))) ⟨Same.new nD, upd_same⟩ (fun j H' _ ⟨s', _⟩ => s'.seq ho') (fun j x H5 H5' hj ⟨s5, eD⟩ yy => ?_) fun H5 ⟨s5, eD⟩ => ?_
        · obtain ⟨rfl, ex⟩ := yy
          obtain ⟨t, et, rfl⟩ := irf_get ex
          have gt := (og' t (List.mem_of_getElem? et)).same s5
          have tk1 : ps.take (j + 1) = ps.take j ++ [t] := take_snoc' et
          have fe : rmv (ps.take (j + 1)) (chgK s n row) = rmv (ps.take j) (chgK s n row) ++ if tOrd (te t) (chgK s n row) = 0 then [] else [t] := by
            unfold rmv
            rw [tk1, List.filter_append, List.filter_cons, List.filter_nil]
            by_cases z : tOrd (te t) (chgK s n row) = 0
            · rw [if_pos z, decide_eq_false (by simp [z])]; rfl
            · rw [if_neg z, decide_eq_true z]; rfl
          refine ⟨rfl, _, rfl, .ref t.1, _, _, _, rfl, gt.key, ?_⟩
          rintro ky H6 ka s6
          obtain ⟨p, r', rfl, k1, k2, k3, k4, k5⟩ := ka
          have s56 := s5.trans s6
          refine ⟨_, rfl, .ref p, .ref k, _, rfl, skd_key k1 (Tk.same s56 _ _ h2) k2 (Tk.same s56 _ _ h3) k4 h4 (by omega), ?_⟩
          rw [key_ord gt.sc h4]
          rintro z H7 rfl s7
          refine ⟨_, rfl, ?_⟩
          have s57 := s56.trans s7
          have eD7 := s7 _ _ (s6 _ _ eD)
          by_cases z : tOrd (te t) (chgK s n row) = 0
          · rw [if_pos z, List.append_nil] at fe
            rw [decide_eq_true z]
            exact iteF ⟨s57, by rw [fe]; exact eD7⟩
          · rw [if_neg z] at fe
            rw [decide_eq_false z]
            refine iteT ⟨_, rfl, _, eD7, ?_, Same.over s57 nD, ?_⟩
            · rw [irf_len]
              have := List.length_filter_le (fun u => decide (tOrd (te u) (chgK s n row) ≠ 0)) (ps.take j)
              rw [List.length_take] at this
              exact small (m := 1000) (by unfold rmv; omega) (by decide)
            · rw [upd_same, fe, irf_app]
              rfl
        · rw [irf_len, List.take_length] at eD
          refine ⟨D, _, _, rfl, s4.trans s5, SqL.of eD, fun u m => (og' u (List.mem_filter.mp m).1).same s5⟩
    · obtain ⟨o', y2, y3, rfl, s4, ho', og'⟩ := hP
      rw [lx, List.take_length] at ho' og'
      exact ⟨_, rfl, q o' H4 s4 ho' og'⟩
end
end K1
namespace K1
open PySem PySem.Spec PyProof.Rows L2 Ow Tlz
abbrev s_law_drawn_changes : Stmt := topS 36
abbrev N_law_drawn_changes : List Str := ["state", "ordered", "changes", "k", "item"]
theorem sc_law_drawn_changes : FnScope N_law_drawn_changes ["state", "ordered"] (defScope s_law_drawn_changes) := ⟨rfl, rfl, rfl, by decide +kernel, rfl, by decide +kernel, by decide +kernel⟩
def CsV (K : PySem.W.Frag) (H : Hp) (cs : List Chg) : Prop := ∀ t, Chg.comes t ∈ cs → ItV K H t
theorem CsV.tk {K : PySem.W.Frag} {H H' : Hp} {cs : List Chg} (k : Tk K H H') (h : CsV K H cs) : CsV K H' cs := fun t m => (h t m).tk k
def spLDrawn (K : PySem.W.Frag) : Sp := fun vs H Q _ => ∃ (p d o : Addr) (os : Its), vs = [.ref p, .ref o] ∧ Rng d H p ∧ H o = some (.lst (irf os)) ∧ o ≠ p ∧ ItsG K H os ∧ (∀ t ∈ os, ItV K H t) ∧ os.length ≤ 40 ∧
  Drw p d H Q fun x H' => ∃ (q : Addr) (xs : List V) (cs : List Chg), x = .ref q ∧ H' q = some (.lst xs) ∧ q ≠ p ∧ q ≠ d ∧ q ≠ o ∧ ChgsAt K H' xs cs ∧ CsV K H' cs ∧ cs.length ≤ 12
section
variable {P : Program} {w : World} {K : PySem.W.Frag} {mg : Str → Option Value} {base : Heap}
theorem ok_ldrawn {f : Addr} {fd : FuncData} (F : Fun K "_law_drawn_changes" "_law_drawn_changes" s_law_drawn_changes f fd) (T0 : Bl mg) (D_law_next : Kn P w K mg base 3 "_law_next" ["state", "limit"] spNext) (D_law_item : Kn P w K mg base 7 "_law_item" ["state"] (spItem4 K)) (D_law_key : Kn P w K mg base 1 "_law_key" ["item"] (spLKey K)) :
    FnOk P w K mg base CX0 8 f fd ["state", "ordered"] (spLDrawn K) := by
  refine F.ok sc_law_drawn_changes (fun vs H Q E h => ?_) (fun cdv A outer s H vs Q E hr h => ?_)
  · obtain ⟨p, d, o, os, rfl, _⟩ := h
    rfl
  · obtain ⟨p, d, o, os, rfl, rg, eo, op, og, ov, lo, q⟩ := h
    refine ⟨_, (pss_cons (ps_set (i := 2) sc_law_drawn_changes.nd rfl (.inl rfl) (pe_lst pa_nil))
      (pss_cons (ps_for PassesOwn.never rfl (pi_range1 (by rfl) T0.range (pa_cons (pe_kn D_law_next hr (pa_cons (pv 0) (pa_cons pe_int pa_nil))) pa_nil)) (pg_name (i := 3) sc_law_drawn_changes.nd rfl (.inl rfl)) (pss_cons (ps_set (i := 4) sc_law_drawn_changes.nd rfl (.inl rfl) (pe_kn D_law_item hr (pa_cons (pv 0) pa_nil)))
      (pss_mid (ps_if (PW.pt (pw_and (pt_cmpR op_gt (pe_callB call_len_seq (by rfl) T0.len PySem.boot_len (pa_cons (pv 1) pa_nil)) pe_int (nomark _)) (pw_and1 (pt_cmpR op_eq (pe_kn D_law_next hr (pa_cons (pv 0) (pa_cons pe_int pa_nil))) pe_int (nomark _))))) (pss_one (ps_set (i := 4) sc_law_drawn_changes.nd rfl (.inl rfl) (pe_ix ix_list (pv 1) (pe_kn D_law_next hr (pa_cons (pv 0) (pa_cons (pe_callB call_len_seq (by rfl) T0.len PySem.boot_len (pa_cons (pv 1) pa_nil)) pa_nil))) (fun _ _ => rfl)))) pss_nil)
      (pss_one (ps_if (pt_cmpR op_eq (pe_kn D_law_next hr (pa_cons (pv 0) (pa_cons pe_int pa_nil))) pe_int (nomark _)) (pss_one (ps_expr (pe_bm PySem.F.plainAttrs_list PySem.F.slot_list_append PySem.F.type_list_append mt_append (pv 2) (pa_cons (pe_tup (pa_cons pe_str (pa_cons (pe_kn D_law_key hr (pa_cons (pv 4) pa_nil)) pa_nil))) pa_nil)))) (pss_one (ps_expr (pe_bm PySem.F.plainAttrs_list PySem.F.slot_list_append PySem.F.type_list_append mt_append (pv 2) (pa_cons (pe_tup (pa_cons pe_str (pa_cons (pv 4) pa_nil))) pa_nil)))))))))
      (pss_one (ps_ret (pv 2))))), ?_⟩
    refine ⟨sz 0, fun D nD => ?_⟩
    have s0 := Same.new (o := .lst []) nD
    have Do : D ≠ o := fun z => by rw [z, eo] at nD; cases nD
    refine ⟨_, rfl, p, d, 13, rfl, by decide, rg.same s0, ?_⟩
    rintro x1 H1 ⟨v, rfl, v0, v1⟩ gw1 rg1
    have fD := rg.free nD
    refine ⟨v, rfl, by omega, by omega, for_range (lo := 0) (n := v.toNat) (fun j σ H4 => ∃ (y3 y4 : Option V) (xs : List V) (cs : List Chg), σ = [some (.ref p), some (.ref o), some (.ref D), y3, y4] ∧ H4 D = some (.lst xs) ∧ ChgsAt K H4 xs cs ∧ CsV K H4 cs ∧ xs.length = j ∧ Gw p H H4 ∧ Rng d H4 p)
      ⟨none, none, [], [], rfl, gw1 _ _ fD.1 upd_same, ⟨rfl, fun i x c e => by simp at e⟩, (fun t m => nomatch m), rfl, (Gw.same s0).trans gw1, rg1⟩ (fun j σ H4 hj hP => ?_) (fun σ H4 hP => ?_)⟩
    · obtain ⟨y3, y4, xs, cs, rfl, eD, ch, cv, lx, gw4, rg4⟩ := hP
      refine ⟨_, rfl, p, d, rfl, rg4, ?_⟩
      rintro x5 H5 ⟨a, i, rfl, hi, vi⟩ gw5 rg5
      have t45 : Tk K H4 H5 := Rng.tk rg4 gw5
      refine ⟨fun σ' H' => ∃ (a : Addr) (i : It) (y3 : Option V), σ' = [some (.ref p), some (.ref o), some (.ref D), y3, some (.ref a)] ∧ ItG K H' a i ∧ ItV K H' (a, i) ∧ Gw p H5 H' ∧ Rng d H' p ∧ Tk K H4 H', ?_, ?_⟩
      · have eo5 : H5 o = some (.lst (irf os)) := gw5 _ _ op (gw4 _ _ op eo)
        have tk05 : Tk K H H5 := Rng.tk rg (gw4.trans gw5)
        refine ⟨_, rfl, o, _, rfl, .inl (SqL.of eo5), _, _, rfl, rfl, _, rfl, ?_⟩
        by_cases z : os = []
        · subst z
          refine iteF ?_
          exact ⟨a, i, _, rfl, hi, vi, Gw.refl _ _, rg5, t45⟩
        · have l0 : 0 < os.length := List.length_pos_iff.mpr z
          rw [irf_len, decide_eq_true (by omega)]
          refine iteT ?_
          refine ⟨_, rfl, p, d, 2, rfl, by decide, rg5, ?_⟩
          rintro x6 H6 ⟨v6, rfl, _, _⟩ gw6 rg6
          have t56 : Tk K H5 H6 := Rng.tk rg5 gw6
          refine ⟨rfl, _, rfl, ite2 (fun _ => ?_) (fun _ => ?_)⟩
          · have eo6 : H6 o = some (.lst (irf os)) := gw6 _ _ op eo5
            refine ⟨_, rfl, _, rfl, _, rfl, o, _, rfl, .inl (SqL.of eo6), p, d, (os.length : Int), by rw [irf_len]; rfl, by omega, rg6, ?_⟩
            rintro x7 H7 ⟨v7, rfl, w0, w1⟩ gw7 rg7
            have t67 : Tk K H6 H7 := Rng.tk rg6 gw7
            have eo7 : H7 o = some (.lst (irf os)) := gw7 _ _ op eo6
            have hv : v7.toNat < os.length := by omega
            have et : os[v7.toNat]? = some os[v7.toNat] := List.getElem?_eq_getElem hv
            generalize os[v7.toNat] = t at et
            have ey : (irf os)[v7.toNat]? = some (.ref t.1) := by unfold irf; rw [List.getElem?_map, et]; rfl
            have mt := List.mem_of_getElem? et
            refine ⟨o, _, v7, .ref t.1, rfl, rfl, SqL.of eo7, at_of (j := v7.toNat) (by omega) ey, ?_⟩
            have t07 := (tk05.trans t56).trans t67
            exact ⟨t.1, t.2, _, rfl, (og t mt).tk t07, (ov t mt).tk t07, gw6.trans gw7, rg7, (t45.trans t56).trans t67⟩
          · exact ⟨a, i, _, rfl, hi.tk t56, vi.tk t56, gw6, rg6, t45.trans t56⟩
      · rintro σ' H6 ⟨a, i, y3, rfl, hi, vi, gw6, rg6, t46⟩
        have gw56 := gw5.trans gw6
        have eD6 := gw56 _ _ fD.1 eD
        refine ⟨_, rfl, p, d, 2, rfl, by decide, rg6, ?_⟩
        rintro x7 H7 ⟨v7, rfl, _, _⟩ gw7 rg7
        have t67 : Tk K H6 H7 := Rng.tk rg6 gw7
        have eD7 := gw7 _ _ fD.1 eD6
        have hi7 := hi.tk t67
        have fin : ∀ {H8 : Hp} {u : V} {c : Chg}, Same H7 H8 → ChgAt K H8 u c → (∀ t, c = .comes t → ItV K H8 t) → ∃ (y3' y4' : Option V) (xs' : List V) (cs' : List Chg), ([some (V.ref p), some (.ref o), some (.ref D), y3, some (.ref a)] : L2.St) = [some (.ref p), some (.ref o), some (.ref D), y3', y4'] ∧ (upd H8 D (.lst (xs ++ [u]))) D = some (.lst xs') ∧ ChgsAt K (upd H8 D (.lst (xs ++ [u]))) xs' cs' ∧ CsV K (upd H8 D (.lst (xs ++ [u]))) cs' ∧ xs'.length = j + 1 ∧ Gw p H (upd H8 D (.lst (xs ++ [u]))) ∧ Rng d (upd H8 D (.lst (xs ++ [u]))) p := fun {H8 u c} s8 ca cvn => by
          have tD : Tk K H8 (upd H8 D (.lst (xs ++ [u]))) := Tk.put (s8 _ _ eD7)
          have t48 : Tk K H4 H8 := (t46.trans t67).trans (Tk.same s8)
          refine ⟨_, _, xs ++ [u], cs ++ [c], rfl, upd_same, ((ch.tk t48).tk tD).snoc (ca.tk tD), fun t m => ?_, by rw [List.length_append, lx]; rfl, Gw.over (((gw4.trans gw56).trans gw7).trans (Gw.same s8)) nD, (rg7.same s8).upd fD⟩
          rcases List.mem_append.mp m with m | m
          · exact ((cv t m).tk t48).tk tD
          · exact (cvn t (List.mem_singleton.mp m).symm).tk tD
        refine ⟨rfl, _, rfl, ite2 (fun _ => ?_) (fun _ => ?_)⟩
        · refine ⟨_, rfl, .inl ⟨rfl, _, .inl (.inl eD7)⟩, ?_⟩
          refine ⟨_, rfl, .ref a, _, _, _, rfl, hi7.key, ?_⟩
          rintro ky H8 hk s8
          refine ⟨sz 2, fun t2 nt2 => ?_⟩
          have s9 := s8.trans (Same.new (o := .tup [.str "goes", ky]) nt2)
          refine ⟨D, xs, _, rfl, rfl, s9 _ _ eD7, small (m := 1000) (by omega) (by decide), ?_⟩
          obtain ⟨b, r, rfl, k1, k2, k3, k4, k5⟩ := hk.tk (Tk.same (Same.new (o := .tup [.str "goes", ky]) nt2))
          refine fin (c := .goes (soI i) (ier i).2.1 (ier i).2.2.1) s9 ⟨t2, b, r, rfl, SqT.of upd_same, by rw [← so_ier]; exact k1, k2, k4, ?_, ?_, ?_, k3⟩ (fun t z => by cases z)
          · have at_ := hi.at_
            cases i with
            | fact n r row => exact at_.2.2.2
            | _ => exact Nat.zero_le _
          · cases i <;> simp [soI]
          · cases i <;> simp [soI, ier]
        · refine ⟨_, rfl, .inl ⟨rfl, _, .inl (.inl eD7)⟩, _, rfl, sz 2, fun t2 nt2 => ?_⟩
          have s9 := Same.new (o := .tup [.str "comes", .ref a]) nt2
          refine ⟨D, xs, _, rfl, rfl, s9 _ _ eD7, small (m := 1000) (by omega) (by decide), ?_⟩
          refine fin (c := .comes (a, i)) s9 ⟨t2, rfl, SqT.of upd_same, hi7.same s9⟩ (fun t z => by cases z; exact (vi.tk t67).tk (Tk.same s9))
    · obtain ⟨y3, y4, xs, cs, rfl, eD, ch, cv, lx, gw4, rg4⟩ := hP
      exact ⟨_, rfl, q _ _ ⟨D, xs, cs, rfl, eD, fD.1, fD.2, Do, ch, cv, by have := ch.1; omega⟩ gw4 rg4⟩
end
end K1
namespace Ow
open PySem PySem.Spec PyProof.Rows L2
theorem op_notInD_K {X : Cx} {K : PySem.W.Frag} (e : X.K = K) (hu : X.A.units + 65 < cLine) : OpR X (compareOp .NotIn) (rNotInD K) := by
  subst e
  exact op_notInD hu
end Ow
namespace K1
open PySem PySem.Spec PyProof.Rows L2 Ow Tlz
abbrev s_law_between : Stmt := topS 37
abbrev N_law_between : List Str := ["first", "second", "keys", "changes", "item"]
theorem sc_law_between : FnScope N_law_between ["first", "second"] (defScope s_law_between) := ⟨rfl, rfl, rfl, by decide +kernel, rfl, by decide +kernel, by decide +kernel⟩
def keyD (t : Addr × It) : PyData := .tuple [.int (ier t.2).1, .str (ier t.2).2.1, rowD (ier t.2).2.2.1]
theorem KeyAt.dp {K : PySem.W.Frag} {H : Hp} {x : V} {s : Int} {n : Str} {row : List V} (h : KeyAt K H x s n row) : Dp K H x (.tuple [.int s, .str n, rowD row]) := by
  obtain ⟨a, r, rfl, h1, h2, h3, h4, h5⟩ := h
  exact .tup h1 (.cons (.int _) (.cons (.str _) (.cons (.tup h2 (sc_dp h4)) .nil)))
theorem key_gd {s : Int} {n : Str} {row : List V} (pn : Pr n) (sr : ∀ x ∈ row, Scal x) (l : row.length ≤ 1000) : Gd 2 (.tuple [.int s, .str n, rowD row]) := by
  refine Gd.tup (by show 3 ≤ 1000; decide) fun e m => ?_
  simp only [List.mem_cons, List.not_mem_nil, or_false] at m
  rcases m with z | z | z <;> rw [z]
  · exact (Gd.int _).up (by omega)
  · exact (Gd.str pn).up (by omega)
  · exact Gd.row sr l
theorem key_eqv {t u : Addr × It} (st : tSc (te t)) (su : tSc (te u)) : PyData.eqv (keyD t) (keyD u) = decide (tOrd (te t) (te u) = 0) := by
  unfold keyD
  have er : PyData.eqv (rowD (ier t.2).2.2.1) (rowD (ier u.2).2.2.1) = decide ((ier t.2).2.2.1 = (ier u.2).2.2.1) := eqv_row st su
  rw [eqv_tup, eqv_cons, eqv_cons, eqv_cons, eqv_nil, eqv_int, eqv_str, er, Bool.and_true, Bool.eq_iff_iff, Bool.and_eq_true, Bool.and_eq_true, beq_iff_eq, beq_iff_eq, decide_eq_true_iff, decide_eq_true_iff, tOrd_zero st su]
  rfl
theorem keys_dp {K : PySem.W.Frag} {H : Hp} : ∀ {ks : List V} {os : Its}, ks.length = os.length → (∀ (i : Nat) (x : V) (t : Addr × It), ks[i]? = some x → os[i]? = some t → KeyAt K H x (ier t.2).1 (ier t.2).2.1 (ier t.2).2.2.1) → DpAll K H ks (os.map keyD)
  | [], [], _, _ => .nil
  | [], _ :: _, l, _ => by cases l
  | _ :: _, [], l, _ => by cases l
  | k :: ks, t :: os, l, h => .cons (h 0 k t rfl rfl).dp (keys_dp (Nat.succ.inj l) fun i x u e f => h (i + 1) x u e f)
theorem full_dp {K : PySem.W.Frag} {H : Hp} : ∀ {os : Its} {fs : List Fv}, ItsG K H os → ItsV K H os fs → DpAll K H (irf os) (fs.map fvFull)
  | [], [], _, _ => .nil
  | [], _ :: _, _, v => by cases v.1
  | _ :: _, [], _, v => by cases v.1
  | t :: os, f :: fs, g, v => by
    obtain ⟨a, b⟩ := v.2 0 t f rfl rfl
    exact .cons (fv_full (g t List.mem_cons_self).at_ b a).1 (full_dp (fun u m => g u (List.mem_cons_of_mem _ m)) ⟨Nat.succ.inj v.1, fun i u w e f => v.2 (i + 1) u w e f⟩)
theorem ItsV.okF {K : PySem.W.Frag} {H : Hp} {its : Its} {fs : List Fv} (h : ItsV K H its fs) : ∀ v ∈ fs, FvOk v := fun v m => by
  obtain ⟨i, e⟩ := List.mem_iff_getElem?.mp m
  have hi := (List.getElem?_eq_some_iff.mp e).1
  have := h.1
  exact (h.2 i (its[i]'(by omega)) v (List.getElem?_eq_getElem _) e).2
theorem full_gd {v : Fv} (o : FvOk v) : Gd 2 (fvFull v) := by
  have two : ∀ {w n : Str} {ds : List PyData}, Pr w → Pr n → (∀ d ∈ ds, Gd 1 d) → ds.length ≤ 10 → Gd 2 (.tuple (.str w :: .str n :: ds)) := fun {w n ds} p1 p2 h l => by
    refine Gd.tup (k := 1) (by rw [List.length_cons, List.length_cons]; omega) fun d m => ?_
    rcases List.mem_cons.mp m with z | m
    · rw [z]; exact (Gd.str p1).up (by omega)
    · rcases List.mem_cons.mp m with z | m
      · rw [z]; exact (Gd.str p2).up (by omega)
      · exact h d m
  obtain ⟨gd, gl⟩ := fvD_gd o
  cases v with
  | rel n cs r => exact two (pw4 _ (.inl rfl)) o.1.1 gd gl
  | str n rn cs b s => exact two (pw4 _ (.inr (.inr (.inl rfl)))) o.1.1 gd gl
  | lay n cs => exact two (pw4 _ (.inr (.inr (.inr rfl)))) o.1.1 gd gl
  | fact n row =>
    refine two (ds := [rowD row]) (pw4 _ (.inr (.inl rfl))) o.1.1 (fun d m => ?_) (by show 1 ≤ 10; decide)
    rw [List.mem_singleton.mp m]
    exact Gd.row o.2.1 (by have := o.2.2; omega)
def spLBetween (K : PySem.W.Frag) : Sp := fun vs H Q _ => ∃ (o1 o2 : Addr) (os os2 : Its) (fs gs : List Fv), vs = [.ref o1, .ref o2] ∧ SqL K H o1 (irf os) ∧ SqL K H o2 (irf os2) ∧ ItsG K H os ∧ ItsG K H os2 ∧ ItsV K H os fs ∧ ItsV K H os2 gs ∧ os.length ≤ 80 ∧ os2.length ≤ 80 ∧
  ∀ (p : Addr) (xs : List V) H', Same H H' → H' p = some (.lst xs) → ChgsAt K H' xs (goesL os os2 ++ comesL fs (os2.zip gs)) → Q (.ref p) H'
section
variable {P : Program} {w : World} {K : PySem.W.Frag} {mg : Str → Option Value} {base : Heap}
theorem ok_lbetween {f : Addr} {fd : FuncData} (F : Fun K "_law_between" "_law_between" s_law_between f fd) (T0 : Bl mg) (D_law_key : Kn P w K mg base 1 "_law_key" ["item"] (spLKey K)) : FnOk P w K mg base CX0 2 f fd ["first", "second"] (spLBetween K) := by
  refine F.ok sc_law_between (fun vs H Q E h => ?_) (fun cdv A outer s0 H vs Q E hr h => ?_)
  · obtain ⟨o1, o2, os, os2, fs, gs, rfl, _⟩ := h
    rfl
  · obtain ⟨o1, o2, os, os2, fs, gs, rfl, h1, h2, g1, g2, v1, v2, l1, l2, q⟩ := h
    refine ⟨_, (pss_cons (ps_set (i := 2) sc_law_between.nd rfl (.inr rfl) (pe_lc (own := [("item", 4)]) (g := gName 4) (tt := tYes) rfl sc_law_between.nd (pi_list (pv 1)) (blkOk_by (own := [("item", 4)]) (N := N_law_between) (sc := defScope s_law_between) (by decide +kernel)) (fun _ _ _ _ _ => pg_name (i := 4) sc_law_between.nd rfl (Or.inl rfl)) (fun _ _ _ _ _ => pts_nil) (fun _ _ _ _ _ => (pe_kn D_law_key hr (pa_cons (pv 4) pa_nil)))))
      (pss_cons (ps_setLc (i := 3) (own := [("item", 4)]) (g := gName 4) rfl sc_law_between.nd rfl rfl (sw_true rfl rfl rfl (by decide +kernel)) (pi_list (pv 0)) (blkOk_by (own := [("item", 4)]) (N := N_law_between) (sc := defScope s_law_between) (by decide +kernel)) (fun _ _ _ _ _ => pg_name (i := 4) sc_law_between.nd rfl (Or.inl rfl)) (fun _ _ _ _ _ => (pts_one (pt_cmpR (op_notInD_K (K := K) rfl (hu65 hr)) (pe_kn D_law_key hr (pa_cons (pv 4) pa_nil)) (pv 2) (by rfl)))) (fun _ _ _ _ _ => (pe_tup (pa_cons pe_str (pa_cons (pe_kn D_law_key hr (pa_cons (pv 4) pa_nil)) pa_nil)))))
      (pss_one (ps_ret (pe_op op_cat (pv 3) (pe_lc (own := [("item", 4)]) (g := gName 4) rfl sc_law_between.nd (pi_list (pv 1)) (blkOk_by (own := [("item", 4)]) (N := N_law_between) (sc := defScope s_law_between) (by decide +kernel)) (fun _ _ _ _ _ => pg_name (i := 4) sc_law_between.nd rfl (Or.inl rfl)) (fun _ _ _ _ _ => (pts_one (pt_cmpR (op_notInD_K (K := K) rfl (hu65 hr)) (pv 4) (pv 0) (by rfl)))) (fun _ _ _ _ _ => (pe_tup (pa_cons pe_str (pa_cons (pv 4) pa_nil)))))))))), ?_⟩
    -- the keys
    refine ⟨_, rfl, o2, rfl, ⟨_, h2⟩, fun D nD => ?_⟩
    refine lc_it (walk_list (K := K) (a := o2) (xs := irf os2)) (fun j H' => Same H H' ∧ ∃ ks : List V, H' D = some (.lst ks) ∧ ks.length = j ∧ ∀ (i : Nat) (x : V) (t : Addr × It), ks[i]? = some x → os2[i]? = some t → KeyAt K H' x (ier t.2).1 (ier t.2).2.1 (ier t.2).2.2.1) ⟨Same.new nD, [], upd_same, rfl, fun i x t e => by simp at e⟩ (fun j H' _ ⟨s', _⟩ => s'.seq h2) (fun j x H1 H1' hj ⟨s1, ks, eD, lk, dk⟩ yy => ?_) fun H1 ⟨s1, ks, eD, lk, dk⟩ => ?_
    · obtain ⟨rfl, ex⟩ := yy
      obtain ⟨t, et, rfl⟩ := irf_get ex
      have gt := (g2 t (List.mem_of_getElem? et)).same s1
      refine ⟨rfl, _, rfl, .ref t.1, _, _, _, rfl, gt.key, ?_⟩
      rintro ky H2 ka s2
      have eD2 := s2 _ _ eD
      rw [irf_len] at hj
      have tD : Tk K H1' (upd H2 D (.lst (ks ++ [ky]))) := (Tk.same s2).trans (Tk.put eD2)
      refine ⟨ks, eD2, small (m := 1000) (by omega) (by decide), Same.over (s1.trans s2) nD, ks ++ [ky], upd_same, by rw [List.length_append, lk]; rfl, fun i x u ex eu => ?_⟩
      by_cases z : i < ks.length
      · rw [List.getElem?_append_left z] at ex
        exact (dk i x u ex eu).tk tD
      · have hm := (List.getElem?_eq_some_iff.mp ex).1
        rw [List.length_append, List.length_singleton] at hm
        have z2 : i = ks.length := by omega
        subst z2
        have a1 : ky = x := by simpa using ex
        rw [lk, et] at eu
        cases eu
        subst a1
        exact ka.tk (Tk.put eD2)
    rw [irf_len] at lk
    have keyG : ∀ t ∈ os2, Gd 2 (keyD t) := fun t m => by
      obtain ⟨i, ei⟩ := List.mem_iff_getElem?.mp m
      have hi := (List.getElem?_eq_some_iff.mp ei).1
      obtain ⟨_, _, _, _, _, k3, k4, k5⟩ := dk i (ks[i]'(by omega)) t (List.getElem?_eq_getElem _) ei
      exact key_gd k3 k4 k5
    have gk : Gd 3 (.list (os2.map keyD)) := Gd.lst (by rw [List.length_map]; omega) fun d m => by
      obtain ⟨t, mt, rfl⟩ := List.mem_map.mp m
      exact keyG t mt
    -- what goes
    refine ⟨_, rfl, o1, rfl, ⟨_, s1.seq h1⟩, fun G nG => ?_⟩
    refine lc_it (walk_list (K := K) (a := o1) (xs := irf os)) (fun i H' => Same H1 H' ∧ ∃ acc : List V, H' G = some (.lst acc) ∧ ChgsAt K H' acc (goesP os2 (os.take i)) ∧ acc.length ≤ i) ⟨Same.new nG, [], upd_same, ⟨rfl, fun i e t a => by simp at a⟩, Nat.le_refl _⟩ (fun i H' _ ⟨s', _⟩ => s'.seq (s1.seq h1)) (fun i x H5 H5' hi ⟨s5, acc, eG, ch, la⟩ yy => ?_) fun H5 ⟨s5, acc, eG, ch, la⟩ => ?_
    · obtain ⟨rfl, ex⟩ := yy
      obtain ⟨t, et, rfl⟩ := irf_get ex
      have mt := List.mem_of_getElem? et
      have gt := (g1 t mt).same (s1.trans s5)
      rw [irf_len] at hi
      refine ⟨rfl, _, rfl, .ref t.1, _, _, _, rfl, gt.key, ?_⟩
      rintro ky H2 ka s2
      have s15 := s5.trans s2
      obtain ⟨_, _, _, _, _, q3, q4, q5⟩ := id ka
      have dks : Dp K H2 (.ref D) (.list (os2.map keyD)) := .lst (SqL.of (s15 _ _ eD)) (keys_dp lk fun i x u e f => (dk i x u e f).tk (Tk.same s15))
      refine ⟨_, rfl, keyD t, os2.map keyD, ka.dp, dks, (key_gd q3 q4 q5).shaped (by decide), gk.shaped (by decide), _, rfl, ?_⟩
      have ea : ((os2.map keyD).any fun z => PyData.eqv z (keyD t)) = os2.any fun u => decide (tOrd (te u) (te t) = 0) := by
        rw [List.any_map, Bool.eq_iff_iff, List.any_eq_true, List.any_eq_true]
        refine exists_congr fun u => and_congr_right fun mu => ?_
        show PyData.eqv (keyD u) (keyD t) = true ↔ _
        rw [key_eqv (g2.sc u mu) (g1.sc t mt)]
      rw [ea]
      have fl : goesP os2 (os.take (i + 1)) = goesP os2 (os.take i) ++ if (os2.any fun u => decide (tOrd (te u) (te t) = 0)) = true then [] else [.goes (soI t.2) (ier t.2).2.1 (ier t.2).2.2.1] := by
        unfold goesP
        rw [take_snoc' et, List.filter_append, List.map_append, List.filter_cons, List.filter_nil]
        cases os2.any fun u => decide (tOrd (te u) (te t) = 0) <;> rfl
      cases z : os2.any fun u => decide (tOrd (te u) (te t) = 0) with
      | true =>
        rw [z, if_pos rfl, List.append_nil] at fl
        exact iteF ⟨s15, acc, s2 _ _ eG, by rw [fl]; exact ch.tk (Tk.same s2), by omega⟩
      | false =>
        rw [z, if_neg (by decide)] at fl
        refine iteT ?_
        refine ⟨_, rfl, .ref t.1, _, _, _, rfl, (gt.same s2).key, ?_⟩
        rintro ky2 H3 kb s3
        refine ⟨sz 2, fun p np => ?_⟩
        have eG3 := s3 _ _ (s2 _ _ eG)
        have s23p := (s2.trans s3).trans (Same.new (o := .tup [.str "goes", ky2]) np)
        refine ⟨acc, Same.new np _ _ eG3, small (m := 1000) (by omega) (by decide), ?_⟩
        have tk6 : Tk K H3 (upd (upd H3 p (.tup [.str "goes", ky2])) G (.lst (acc ++ [.ref p]))) := (Tk.same (Same.new np)).trans (Tk.put (Same.new np _ _ eG3))
        refine ⟨Same.over (s5.trans s23p) nG, acc ++ [.ref p], upd_same, ?_, by rw [List.length_append]; exact Nat.succ_le_succ la⟩
        rw [fl]
        refine (ch.tk ((Tk.same (s2.trans s3)).trans tk6)).snoc ?_
        obtain ⟨a, r, rfl, k1, k2, k3, k4, k5⟩ := kb
        have npG : p ≠ G := fun w => by rw [w, eG3] at np; cases np
        refine ⟨p, a, r, rfl, SqT.of (by rw [upd_ne npG]; exact upd_same), ?_, tk6.f _ _ k2, k4, ?_, ?_, ?_, k3⟩
        · rw [← so_ier]
          exact tk6.f _ _ k1
        · have at_ := (g1 t mt).at_
          cases hi3 : t.2 with
          | fact n r row => rw [hi3] at at_; exact at_.2.2.2
          | _ => exact Nat.zero_le _
        · cases t.2 <;> simp [soI]
        · cases t.2 <;> simp [soI, ier]
    rw [irf_len, List.take_length] at ch
    rw [irf_len] at la
    -- what comes
    have s05 := s1.trans s5
    have dfs : ∀ {H6 : Hp}, Same H5 H6 → Dp K H6 (.ref o1) (.list (fs.map fvFull)) := fun {H6} s6 => .lst ((s05.trans s6).seq h1) (full_dp (g1.same (s05.trans s6)) ⟨v1.1, fun i t v e f => ⟨(v1.2 i t v e f).1.tk (Tk.same (s05.trans s6)), (v1.2 i t v e f).2⟩⟩)
    have gfs : Gd 3 (.list (fs.map fvFull)) := Gd.lst (by rw [List.length_map]; have := v1.1; omega) fun d m => by
      obtain ⟨v, mv, rfl⟩ := List.mem_map.mp m
      exact full_gd (v1.okF v mv)
    refine ⟨_, rfl, _, rfl, o2, rfl, ⟨_, s05.seq h2⟩, fun M nM => ?_⟩
    refine lc_it (walk_list (K := K) (a := o2) (xs := irf os2)) (fun i H' => Same H5 H' ∧ ∃ acc : List V, H' M = some (.lst acc) ∧ ChgsAt K H' acc (comesL fs ((os2.zip gs).take i)) ∧ acc.length ≤ i) ⟨Same.new nM, [], upd_same, ⟨rfl, fun i e t a => by simp at a⟩, Nat.le_refl _⟩ (fun i H' _ ⟨s', _⟩ => (s05.trans s').seq h2) (fun i x H6 H6' hi ⟨s6, acc2, eM, ch2, la2⟩ yy => ?_) fun H6 ⟨s6, acc2, eM, ch2, la2⟩ => ?_
    · obtain ⟨rfl, ex⟩ := yy
      obtain ⟨t, et, rfl⟩ := irf_get ex
      have mt := List.mem_of_getElem? et
      rw [irf_len] at hi
      have lv := v2.1
      have ev : gs[i]? = some (gs[i]'(by omega)) := List.getElem?_eq_getElem _
      generalize gs[i]'(by omega) = v at ev
      obtain ⟨fvt, okv⟩ := v2.2 i t v et ev
      have gt := (g2 t mt).same (s05.trans s6)
      obtain ⟨dt, gdt⟩ := fv_full gt.at_ okv (fvt.tk (Tk.same (s05.trans s6)))
      have ez : (os2.zip gs).take (i + 1) = (os2.zip gs).take i ++ [(t, v)] := take_snoc' (List.getElem?_zip_eq_some.mpr ⟨et, ev⟩)
      have fl : comesL fs ((os2.zip gs).take (i + 1)) = comesL fs ((os2.zip gs).take i) ++ if newB fs v = true then [.comes t] else [] := by
        unfold comesL
        rw [ez, List.filter_append, List.map_append, List.filter_cons, List.filter_nil]
        cases newB fs v <;> rfl
      refine ⟨rfl, _, rfl, _, rfl, fvFull v, fs.map fvFull, dt, dfs s6, gdt.shaped (by decide), gfs.shaped (by decide), _, rfl, ?_⟩
      have en : (!((fs.map fvFull).any fun z => PyData.eqv z (fvFull v))) = newB fs v := by
        unfold newB
        rw [List.any_map]
        rfl
      rw [en]
      cases z : newB fs v with
      | false =>
        rw [z, if_neg (by decide), List.append_nil] at fl
        exact iteF ⟨s6, acc2, eM, by rw [fl]; exact ch2, by omega⟩
      | true =>
        rw [z, if_pos rfl] at fl
        refine iteT ⟨_, rfl, sz 2, fun p np => ⟨acc2, Same.new np _ _ eM, small (m := 1000) (by omega) (by decide), ?_⟩⟩
        have tk6 : Tk K H6' (upd (upd H6' p (.tup [.str "comes", .ref t.1])) M (.lst (acc2 ++ [.ref p]))) := (Tk.same (Same.new np)).trans (Tk.put (Same.new np _ _ eM))
        refine ⟨Same.over (s6.trans (Same.new np)) nM, acc2 ++ [.ref p], upd_same, ?_, by rw [List.length_append]; exact Nat.succ_le_succ la2⟩
        rw [fl]
        refine (ch2.tk tk6).snoc ?_
        have npM : p ≠ M := fun w => by rw [w, eM] at np; cases np
        exact ⟨p, rfl, SqT.of (by rw [upd_ne npM]; exact upd_same), gt.tk tk6⟩
    have lz : (os2.zip gs).length = os2.length := by rw [List.length_zip]; have := v2.1; omega
    rw [irf_len, ← lz, List.take_length] at ch2
    rw [irf_len] at la2
    refine ⟨G, M, acc, acc2, rfl, rfl, s6 _ _ eG, eM, sz _ (by omega), fun p np => ?_⟩
    have sp := Same.new (o := .lst (acc ++ acc2)) np
    refine q p (acc ++ acc2) _ ((s05.trans s6).trans sp) upd_same ?_
    exact ((ch.tk (Tk.same s6)).app ch2).tk (Tk.same sp)
end
end K1
namespace K1
open PySem PySem.Spec PyProof.Rows L2 Ow Tlz
abbrev s_law_schema : Stmt := topS 38
abbrev N_law_schema : List Str := ["ordered", "item"]
theorem sc_law_schema : FnScope N_law_schema ["ordered"] (defScope s_law_schema) := ⟨rfl, rfl, rfl, by decide +kernel, rfl, by decide +kernel, by decide +kernel⟩
def isFact : Addr × It → Bool
  | (_, .fact _ _ _) => true
  | _ => false
def schL (os : Its) : Its := os.filter fun t => !isFact t
def spLSchema (K : PySem.W.Frag) : Sp := fun vs H Q _ => ∃ (o : Addr) (os : Its), vs = [.ref o] ∧ SqL K H o (irf os) ∧ ItsG K H os ∧ os.length ≤ 80 ∧ ∀ p H', Same H H' → H' p = some (.lst (irf (schL os))) → Q (.ref p) H'
theorem head_at {K : PySem.W.Frag} {H : Hp} {t : Addr × It} (h : ItAt K H t.1 t.2) : ∃ rest, SqT K H t.1 (.str (wdI t.2) :: rest) := by
  obtain ⟨a, i⟩ := t
  cases i with
  | fact n r row => exact ⟨_, h.1⟩
  | rel n c => exact ⟨_, h⟩
  | str n c => exact ⟨_, h⟩
  | lay n v => exact ⟨_, h⟩
section
variable {P : Program} {w : World} {K : PySem.W.Frag} {mg : Str → Option Value} {base : Heap}
theorem ok_lschema {f : Addr} {fd : FuncData} (F : Fun K "_law_schema" "_law_schema" s_law_schema f fd) (T0 : Bl mg) : FnOk P w K mg base CX0 1 f fd ["ordered"] (spLSchema K) := by
  refine F.ok sc_law_schema (fun vs H Q E h => ?_) (fun cdv A outer s0 H vs Q E hr h => ?_)
  · obtain ⟨o, os, rfl, _⟩ := h
    rfl
  · obtain ⟨o, os, rfl, ho, og, lo, q⟩ := h
    refine ⟨_, (pss_one (ps_ret (pe_lc (own := [("item", 1)]) (g := gName 1) rfl sc_law_schema.nd (pi_list (pv 0)) (blkOk_by (own := [("item", 1)]) (N := N_law_schema) (sc := defScope s_law_schema) (by decide +kernel)) (fun _ _ _ _ _ => pg_name (i := 1) sc_law_schema.nd rfl (Or.inl rfl)) (fun _ _ _ _ _ => (pts_one (pt_cmpR op_ne (pe_ix (ix_tup_K rfl) (pv 1) pe_int (fun _ _ => rfl)) pe_str (nomark _)))) (fun _ _ _ _ _ => (pv 1))))), ?_⟩
    refine ⟨_, rfl, o, rfl, ⟨_, ho⟩, fun D nD => ?_⟩
    refine lc_it (walk_list (K := K) (a := o) (xs := irf os)) (fun j H' => Same H H' ∧ H' D = some (.lst (irf (schL (os.take j))))) ⟨Same.new nD, upd_same⟩ (fun j H' _ ⟨s', _⟩ => s'.seq ho) (fun j x H5 H5' hj ⟨s5, eD⟩ yy => ?_) fun H5 ⟨s5, eD⟩ => ?_
    · obtain ⟨rfl, ex⟩ := yy
      obtain ⟨t, et, rfl⟩ := irf_get ex
      have gt := (og t (List.mem_of_getElem? et)).same s5
      obtain ⟨rest, ht⟩ := head_at gt.at_
      have fe : schL (os.take (j + 1)) = schL (os.take j) ++ if isFact t = true then [] else [t] := by
        unfold schL
        rw [take_snoc' et, List.filter_append, List.filter_cons, List.filter_nil]
        cases isFact t <;> rfl
      refine ⟨rfl, _, rfl, t.1, _, 0, .str (wdI t.2), rfl, rfl, ht, at_of (j := 0) rfl rfl, rfl, _, rfl, ?_⟩
      have ed : decide (V.str (wdI t.2) = V.str "fact") = isFact t := by
        obtain ⟨a, i⟩ := t
        cases i <;> (first | exact decide_eq_true rfl | exact decide_eq_false (fun e => absurd (V.str.inj e) (by simp only [wdI]; decide +kernel)))
      rw [ed]
      cases z : isFact t with
      | true =>
        rw [z, if_pos rfl, List.append_nil] at fe
        exact iteF ⟨s5, by rw [fe]; exact eD⟩
      | false =>
        rw [z, if_neg (by decide)] at fe
        refine iteT ⟨_, rfl, _, eD, ?_, Same.over s5 nD, ?_⟩
        · rw [irf_len]
          have := List.length_filter_le (fun t => !isFact t) (os.take j)
          rw [List.length_take] at this
          exact small (m := 1000) (by unfold schL; omega) (by decide)
        · rw [upd_same, fe, irf_app]
          rfl
    · rw [irf_len, List.take_length] at eD
      exact q D H5 s5 eD
end
end K1
namespace K1
open PySem PySem.Spec PyProof.Rows L2 Ow Tlz
/-! changes that tell the same -/
def ChgTw (K : PySem.W.Frag) (H : Hp) : Chg → Chg → Prop
  | .comes t, .comes u => Tw K H t u
  | .goes s n row, .goes s' n' row' => s = s' ∧ n = n' ∧ row = row'
  | _, _ => False
inductive ChgTws (K : PySem.W.Frag) (H : Hp) : List Chg → List Chg → Prop
  | nil : ChgTws K H [] []
  | cons {c d : Chg} {cs ds : List Chg} : ChgTw K H c d → ChgTws K H cs ds → ChgTws K H (c :: cs) (d :: ds)
section
variable {K : PySem.W.Frag} {H : Hp}
theorem ChgTws.app {cs ds cs' ds' : List Chg} (h : ChgTws K H cs ds) (g : ChgTws K H cs' ds') : ChgTws K H (cs ++ cs') (ds ++ ds') := by
  induction h with
  | nil => exact g
  | cons a _ ih => exact .cons a ih
theorem goes_tws : ∀ ts : Its, ChgTws K H (ts.map fun t => Chg.goes (soI t.2) (ier t.2).2.1 (ier t.2).2.2.1) (ts.map fun t => Chg.goes (soI t.2) (ier t.2).2.1 (ier t.2).2.2.1)
  | [] => .nil
  | _ :: ts => .cons ⟨rfl, rfl, rfl⟩ (goes_tws ts)
theorem comes_tws (fs : List Fv) : ∀ {A B : Its} {gs : List Fv}, A.map te = B.map te → ItsV K H B gs → ChgTws K H (comesL fs (A.zip gs)) (comesL fs (B.zip gs))
  | [], [], _, _, _ => by simp [comesL]; exact .nil
  | [], _ :: _, _, e, _ => by cases e
  | _ :: _, [], _, e, _ => by cases e
  | a :: A, b :: B, [], _, v => by cases v.1
  | a :: A, b :: B, g :: gs, e, v => by
    rw [List.map_cons, List.map_cons] at e
    obtain ⟨e1, e2⟩ := List.cons.inj e
    have ih := comes_tws fs (A := A) (B := B) (gs := gs) e2 ⟨Nat.succ.inj v.1, fun i t w x y => v.2 (i + 1) t w x y⟩
    obtain ⟨f, o⟩ := v.2 0 b g rfl rfl
    unfold comesL at ih ⊢
    rw [List.zip_cons_cons, List.zip_cons_cons, List.filter_cons, List.filter_cons]
    show ChgTws K H (List.map _ (if newB fs g = true then _ else _)) (List.map _ (if newB fs g = true then _ else _))
    by_cases z : newB fs g = true
    · rw [if_pos z, if_pos z]
      exact .cons ⟨g, o, f.ier e1.symm, f⟩ ih
    · rw [if_neg z, if_neg z]
      exact ih
theorem chg_data {x y : V} {c d : Chg} (h : ChgAt K H x c) (g : ChgAt K H y d) (t : ChgTw K H c d) : ∃ e, Dp K H x e ∧ Dp K H y e ∧ Gd 3 e := by
  cases c with
  | comes t1 =>
    cases d with
    | comes u =>
      obtain ⟨a, rfl, h1, h2⟩ := h
      obtain ⟨b, rfl, g1, g2⟩ := g
      obtain ⟨v, o, f1, f2⟩ := t
      obtain ⟨e, d1, d2, gd⟩ := tw_data h2.at_ g2.at_ o f1 f2
      refine ⟨.tuple [.str "comes", e], .tup h1 (.cons (.str _) (.cons d1 .nil)), .tup g1 (.cons (.str _) (.cons d2 .nil)), ?_⟩
      refine Gd.tup (by show 2 ≤ 1000; decide) fun x m => ?_
      simp only [List.mem_cons, List.not_mem_nil, or_false] at m
      rcases m with z | z <;> rw [z]
      · exact (Gd.str (by decide +kernel)).up (by omega)
      · exact gd
    | goes _ _ _ => exact t.elim
  | goes s n row =>
    cases d with
    | comes _ => exact t.elim
    | goes s' n' row' =>
      obtain ⟨rfl, rfl, rfl⟩ := t
      obtain ⟨a, k, r, rfl, h1, h2, h3, h4, h5, h6, h7, h8⟩ := h
      obtain ⟨b, l, q, rfl, g1, g2, g3, _⟩ := g
      refine ⟨.tuple [.str "goes", .tuple [.int (s : Nat), .str n, rowD row]], .tup h1 (.cons (.str _) (.cons (.tup h2 (.cons (.int _) (.cons (.str _) (.cons (.tup h3 (sc_dp h4)) .nil)))) .nil)), .tup g1 (.cons (.str _) (.cons (.tup g2 (.cons (.int _) (.cons (.str _) (.cons (.tup g3 (sc_dp h4)) .nil)))) .nil)), ?_⟩
      refine Gd.tup (by show 2 ≤ 1000; decide) fun x m => ?_
      simp only [List.mem_cons, List.not_mem_nil, or_false] at m
      rcases m with z | z <;> rw [z]
      · exact (Gd.str (by decide +kernel)).up (by omega)
      · exact key_gd h8 h4 (by omega)
theorem chgs_data {cs ds : List Chg} (t : ChgTws K H cs ds) : ∀ {xs ys : List V}, ChgsAt K H xs cs → ChgsAt K H ys ds → ∃ es, DpAll K H xs es ∧ DpAll K H ys es ∧ ∀ e ∈ es, Gd 3 e := by
  induction t with
  | nil =>
    intro xs ys h g
    cases List.length_eq_zero_iff.mp h.1
    cases List.length_eq_zero_iff.mp g.1
    exact ⟨[], .nil, .nil, fun _ m => nomatch m⟩
  | @cons c d cs ds a _ ih =>
    intro xs ys h g
    cases xs with
    | nil => cases h.1
    | cons x xs =>
      cases ys with
      | nil => cases g.1
      | cons y ys =>
        obtain ⟨es, a1, a2, a3⟩ := ih (xs := xs) (ys := ys) ⟨Nat.succ.inj h.1, fun i u v e f => h.2 (i + 1) u v e f⟩ ⟨Nat.succ.inj g.1, fun i u v e f => g.2 (i + 1) u v e f⟩
        obtain ⟨e, d1, d2, gd⟩ := chg_data (h.2 0 x c rfl rfl) (g.2 0 y d rfl rfl) a
        refine ⟨e :: es, .cons d1 a1, .cons d2 a2, fun z m => ?_⟩
        rcases List.mem_cons.mp m with w | m
        · rw [w]; exact gd
        · exact a3 z m
theorem nd_len {α : Type} [DecidableEq α] : ∀ {l l' : List α}, l.Nodup → (∀ x ∈ l, x ∈ l') → l.length ≤ l'.length
  | [], _, _, _ => Nat.zero_le _
  | a :: l, l', nd, h => by
    obtain ⟨n1, n2⟩ := List.nodup_cons.mp nd
    have ma := h a List.mem_cons_self
    have ih := nd_len (l := l) (l' := l'.erase a) n2 fun x m => (List.mem_erase_of_ne (fun z => n1 (by rw [← z]; exact m))).mpr (h x (List.mem_cons_of_mem _ m))
    have e := List.length_erase_of_mem ma
    have p : 0 < l'.length := List.length_pos_of_mem ma
    rw [List.length_cons]
    omega
theorem Rep.rows_len {os : Its} {R S : Tb} {F : Fb} {L : List (Str × V)} (h : Rep os R F S L) {n : Str} {q : Addr} {rs : List (Addr × List V)} (e : valG F n = some (q, rs)) : rs.length ≤ os.length := by
  have nd : (rs.map (·.2)).Nodup := by
    rw [List.nodup_iff_pairwise_ne, List.pairwise_map]
    have sr := h.fs n q rs e
    refine List.Pairwise.imp_of_mem (fun {a b} ma mb l w => ?_) sr.1
    rw [w] at l
    exact rlt_asym (sr.2 _ mb) (sr.2 _ mb) l l
  have sub : ∀ row ∈ rs.map (·.2), row ∈ os.map fun t => (ier t.2).2.2.1 := fun row m => by
    obtain ⟨t, mt, rfl⟩ := List.mem_map.mp m
    obtain ⟨r, a, ma⟩ := (h.f n t.2).mp ⟨q, rs, e, t.1, mt⟩
    exact List.mem_map.mpr ⟨_, ma, rfl⟩
  have := nd_len nd sub
  rwa [List.length_map, List.length_map] at this
theorem StAt.tight {C x dr df ds dl : Addr} {Z : Addr → Prop} {R S : Tb} {F : Fb} {L : List (Str × V)} {b : Nat} {os : Its} (h : StAt K C Z H x dr df ds dl R F S L b) (r : Rep os R F S L) (l : os.length ≤ 300) : StAt K C Z H x dr df ds dl R F S L 300 := by
  obtain ⟨l1, l2, l3, l4⟩ := r.len
  obtain ⟨ob, r', rt, f, ft, fz, fp, fn, s', st, l', z, ne, nw, ln⟩ := h
  refine ⟨ob, r', rt, f, fun e m => ⟨(ft e m).1, (ft e m).2.1, ?_⟩, fz, fp, fn, s', st, l', z, ne, nw, by omega⟩
  obtain ⟨n, q, rs⟩ := e
  exact Nat.le_trans (r.rows_len (valG_of fn m)) l
end
end K1
namespace K1
open PySem PySem.Spec PyProof.Rows L2 Ow Tlz
/-! the schema by values -/
def fvS : Fv → Nat
  | .rel _ _ _ => 0
  | .fact _ _ => 1
  | .str _ _ _ _ _ => 2
  | .lay _ _ => 3
def fvR : Fv → List V
  | .fact _ row => row
  | _ => []
def fvK (v : Fv) : Kt := ((fvS v : Nat), fvN v, fvR v, [])
/-- what a table has of it -/
def fvE : Fv → PyData
  | .lay _ cs => .tuple (cs.map PyData.str)
  | v => .tuple (fvD v)
theorem FvIt.k {K : PySem.W.Frag} {H : Hp} {i : It} {v : Fv} (h : FvIt K H i v) : tEq (K1.ier i) (fvK v) := by
  cases i <;> cases v <;> first | exact h.elim | skip
  · exact ⟨rfl, h.1, rfl⟩
  · exact ⟨rfl, h.1, h.2⟩
  · exact ⟨rfl, h.1, rfl⟩
  · exact ⟨rfl, h.1, rfl⟩
theorem fvE_inj {v w : Fv} (hs : fvS v = fvS w) (h1 : fvS v ≠ 1) (hn : fvN v = fvN w) (h : PyData.eqv (fvE v) (fvE w) = true) : v = w := by
  cases v with
  | rel n cs r =>
    cases w with
    | rel m ds r' =>
      simp only [fvE, fvD, eqv_tup, eqv_cons, eqv_int, eqv_nil, Bool.and_eq_true] at h
      obtain ⟨h2, h3, _⟩ := h
      rw [show n = m from hn, eqv_strs _ _ h2, nat_eqv h3]
    | _ => cases hs
  | fact n row => exact absurd rfl h1
  | str n rn cs b s =>
    cases w with
    | str m rm ds b' s' =>
      simp only [fvE, fvD, eqv_tup, eqv_cons, eqv_str, eqv_int, eqv_nil, Bool.and_eq_true] at h
      obtain ⟨h2, h3, h4, h5, _⟩ := h
      rw [show n = m from hn, beq_iff_eq.mp h2, eqv_strs _ _ h3, nat_eqv h4, nat_eqv h5]
    | _ => cases hs
  | lay n cs =>
    cases w with
    | lay m ds =>
      simp only [fvE, eqv_tup] at h
      rw [show n = m from hn, eqv_strs _ _ h]
    | _ => cases hs
theorem fvE_gd {v : Fv} (o : FvOk v) (h1 : fvS v ≠ 1) : Gd 2 (fvE v) := by
  cases v with
  | rel n cs r => exact Gd.tup (by show 2 ≤ 1000; decide) (fvD_gd o).1
  | fact n row => exact absurd rfl h1
  | str n rn cs b s => exact Gd.tup (by show 4 ≤ 1000; decide) (fvD_gd o).1
  | lay n cs => exact (strs_gd o.2).up (by omega)
def Uq (fs : List Fv) : Prop := ∀ v ∈ fs, ∀ w ∈ fs, fvS v = fvS w → fvN v = fvN w → fvS v ≠ 1 → v = w
def fkD (k : Nat) (fs : List Fv) (n : Str) : Option PyData := (fs.find? fun v => decide (fvS v = k ∧ fvN v = n)).map fvE
theorem fk_mem {k : Nat} {fs : List Fv} {n : Str} {d : PyData} (h : fkD k fs n = some d) : ∃ v ∈ fs, fvS v = k ∧ fvN v = n ∧ d = fvE v := by
  unfold fkD at h
  cases e : fs.find? fun v => decide (fvS v = k ∧ fvN v = n) with
  | none => rw [e] at h; cases h
  | some v =>
    rw [e] at h
    have p : fvS v = k ∧ fvN v = n := of_decide_eq_true (List.find?_some (p := fun v => decide (fvS v = k ∧ fvN v = n)) e)
    exact ⟨v, List.mem_of_find?_eq_some e, p.1, p.2, (Option.some.inj h).symm⟩
theorem fk_of {fs : List Fv} (u : Uq fs) {v : Fv} (m : v ∈ fs) (h1 : fvS v ≠ 1) : fkD (fvS v) fs (fvN v) = some (fvE v) := by
  unfold fkD
  cases e : fs.find? fun w => decide (fvS w = fvS v ∧ fvN w = fvN v) with
  | none => exact absurd (decide_eq_true ⟨rfl, rfl⟩) (List.find?_eq_none.mp e v m)
  | some w =>
    have p : fvS w = fvS v ∧ fvN w = fvN v := of_decide_eq_true (List.find?_some (p := fun w => decide (fvS w = fvS v ∧ fvN w = fvN v)) e)
    rw [u v m w (List.mem_of_find?_eq_some e) p.1.symm p.2.symm h1]
    rfl
theorem uq_of {K : PySem.W.Frag} {H : Hp} {os : Its} {fs : List Fv} (k : KSrt os) (s : ScI os) (v : ItsV K H os fs) : Uq fs := fun a ma b mb e1 e2 n1 => by
  obtain ⟨i, ei⟩ := List.mem_iff_getElem?.mp ma
  obtain ⟨j, ej⟩ := List.mem_iff_getElem?.mp mb
  have hi := (List.getElem?_eq_some_iff.mp ei).1
  have hj := (List.getElem?_eq_some_iff.mp ej).1
  have l := v.1
  have ti := (v.2 i (os[i]'(by omega)) a (List.getElem?_eq_getElem _) ei).1.k
  have tj := (v.2 j (os[j]'(by omega)) b (List.getElem?_eq_getElem _) ej).1.k
  have er : fvR a = fvR b := by cases a <;> cases b <;> first | exact absurd rfl n1 | rfl | cases e1
  have := ksrt_at k s (List.getElem?_eq_getElem (show i < os.length by omega)) (List.getElem?_eq_getElem (show j < os.length by omega)) ⟨ti.1.trans ((congrArg (fun n : Nat => (n : Int)) e1).trans tj.1.symm), ti.2.1.trans (e2.trans tj.2.1.symm), ti.2.2.trans (er.trans tj.2.2.symm)⟩
  subst this
  rw [ei] at ej
  exact Option.some.inj ej
/-- a table and its data -/
structure TV {β : Type} (K : PySem.W.Frag) (H : Hp) (vv : β → V) (T : List (Str × β)) (D : Str → Option PyData) : Prop where
  nd : (T.map (·.1)).Nodup
  a : ∀ n b, valG T n = some b → ∃ d, D n = some d ∧ Dp K H (vv b) d ∧ Gd 2 d
  b : ∀ n d, D n = some d → ∃ b, valG T n = some b
def dvK (D : Str → Option PyData) : Key → PyData
  | .inr n => (D n).getD .none
  | .inl _ => .none
def AgrD (D D' : Str → Option PyData) : Prop := (∀ n, (∃ d, D n = some d) ↔ ∃ d, D' n = some d) ∧ ∀ n d e, D n = some d → D' n = some e → PyData.eqv d e = true
theorem sub_of_len {α : Type} [DecidableEq α] {xs ys : List α} (nd : xs.Nodup) (h : ∀ x ∈ xs, x ∈ ys) (l : ys.length ≤ xs.length) : ∀ y ∈ ys, y ∈ xs := fun y m => by
  refine Classical.byContradiction fun n => ?_
  have := nd_len (l' := ys.erase y) nd fun x mx => (List.mem_erase_of_ne (fun z => n (by rw [← z]; exact mx))).mpr (h x mx)
  rw [List.length_erase_of_mem m] at this
  have p := List.length_pos_of_mem m
  omega
section
variable {β : Type} {K : PySem.W.Frag} {H : Hp} {vv : β → V} {T T' : List (Str × β)} {D D' : Str → Option PyData}
theorem TV.deq (h : TV K H vv T D) (g : TV K H vv T' D') : DEq K H (kvG vv T) (kvG vv T') (dvK D) (dvK D') := by
  refine ⟨fun k v m => ?_, fun k v e => ?_⟩
  · obtain ⟨e, me, ee⟩ := List.mem_map.mp m
    cases ee
    obtain ⟨d, e1, e2, e3⟩ := h.a e.1 e.2 (valG_of h.nd me)
    have z : dvK D (Sum.inr e.1) = d := by show (D e.1).getD .none = d; rw [e1]; rfl
    rw [z]
    have := e3.d
    exact ⟨e2, e3.c, by omega⟩
  · cases k with
    | inl i => rw [valV_inl] at e; cases e
    | inr n =>
      rw [kvG_val] at e
      cases z : valG T' n with
      | none => rw [z] at e; cases e
      | some b =>
        rw [z] at e
        obtain ⟨d, e1, e2, e3⟩ := g.a n b z
        have w : dvK D' (Sum.inr n) = d := by show (D' n).getD .none = d; rw [e1]; rfl
        rw [w, ← Option.some.inj e]
        exact ⟨e2, e3.c⟩
theorem TV.eq_iff (h : TV K H vv T D) (g : TV K H vv T' D') : eqDD (kvG vv T) (kvG vv T') (dvK D) (dvK D') = true ↔ AgrD D D' := by
  unfold eqDD
  rw [Bool.and_eq_true, beq_iff_eq, kvG_len, kvG_len, List.all_eq_true]
  have ky : ∀ n, n ∈ T.map (·.1) ↔ ∃ d, D n = some d := fun n => by
    rw [valG_key]
    constructor
    · intro z
      cases e : valG T n with
      | none => rw [e] at z; cases z
      | some b => obtain ⟨d, e1, _⟩ := h.a n b e; exact ⟨d, e1⟩
    · rintro ⟨d, e⟩
      obtain ⟨b, e⟩ := h.b n d e
      rw [e]; rfl
  have ky' : ∀ n, n ∈ T'.map (·.1) ↔ ∃ d, D' n = some d := fun n => by
    rw [valG_key]
    constructor
    · intro z
      cases e : valG T' n with
      | none => rw [e] at z; cases z
      | some b => obtain ⟨d, e1, _⟩ := g.a n b e; exact ⟨d, e1⟩
    · rintro ⟨d, e⟩
      obtain ⟨b, e⟩ := g.b n d e
      rw [e]; rfl
  constructor
  · rintro ⟨l, al⟩
    have sub : ∀ n, n ∈ T.map (·.1) → n ∈ T'.map (·.1) ∧ PyData.eqv (dvK D (Sum.inr n)) (dvK D' (Sum.inr n)) = true := fun n m => by
      obtain ⟨e, me, ee⟩ := List.mem_map.mp m
      have ee : e.1 = n := ee
      subst ee
      have := al (Sum.inr e.1, vv e.2) (List.mem_map.mpr ⟨e, me, rfl⟩)
      rw [Bool.and_eq_true, kvG_val] at this
      refine ⟨valG_key.mpr ?_, this.2⟩
      cases z : valG T' e.1 with
      | none => rw [z] at this; cases this.1
      | some b => rfl
    have back := sub_of_len h.nd (fun n m => (sub n m).1) (by rw [List.length_map, List.length_map]; omega)
    refine ⟨fun n => ⟨fun z => (ky' n).mp (sub n ((ky n).mpr z)).1, fun z => (ky n).mp (back n ((ky' n).mpr z))⟩, fun n d e ed ee => ?_⟩
    have := (sub n ((ky n).mpr ⟨d, ed⟩)).2
    rw [show dvK D (Sum.inr n) = d by show (D n).getD .none = d; rw [ed]; rfl, show dvK D' (Sum.inr n) = e by show (D' n).getD .none = e; rw [ee]; rfl] at this
    exact this
  · rintro ⟨a, b⟩
    have l1 := nd_len h.nd fun n m => (ky' n).mpr ((a n).mp ((ky n).mp m))
    have l2 := nd_len g.nd fun n m => (ky n).mpr ((a n).mpr ((ky' n).mp m))
    rw [List.length_map, List.length_map] at l1 l2
    refine ⟨by omega, fun x m => ?_⟩
    obtain ⟨e, me, rfl⟩ := List.mem_map.mp m
    obtain ⟨d, ed⟩ := (ky e.1).mp (List.mem_map.mpr ⟨e, me, rfl⟩)
    obtain ⟨d', ed'⟩ := (a e.1).mp ⟨d, ed⟩
    have mk := (ky' e.1).mpr ⟨d', ed'⟩
    rw [Bool.and_eq_true, kvG_val]
    refine ⟨?_, ?_⟩
    · have := valG_key.mp mk
      cases z : valG T' e.1 with
      | none => rw [z] at this; cases this
      | some b => rfl
    · rw [show dvK D (Sum.inr e.1) = d by show (D e.1).getD .none = d; rw [ed]; rfl, show dvK D' (Sum.inr e.1) = d' by show (D' e.1).getD .none = d'; rw [ed']; rfl]
      exact b e.1 d d' ed ed'
end
section
variable {K : PySem.W.Frag} {H : Hp} {os : Its} {fs gs : List Fv} {R S : Tb} {F : Fb} {L : List (Str × V)}
theorem ItsV.get {t : Addr × It} (v : ItsV K H os fs) (m : t ∈ os) : ∃ f ∈ fs, FvIt K H t.2 f ∧ FvOk f := by
  obtain ⟨i, ei⟩ := List.mem_iff_getElem?.mp m
  have hi := (List.getElem?_eq_some_iff.mp ei).1
  have l := v.1
  have := v.2 i t (fs[i]'(by omega)) ei (List.getElem?_eq_getElem _)
  exact ⟨_, List.getElem_mem _, this⟩
theorem ItsV.teg {f : Fv} (v : ItsV K H os fs) (m : f ∈ fs) : ∃ t ∈ os, FvIt K H t.2 f ∧ FvOk f := by
  obtain ⟨i, ei⟩ := List.mem_iff_getElem?.mp m
  have hi := (List.getElem?_eq_some_iff.mp ei).1
  have l := v.1
  have := v.2 i (os[i]'(by omega)) f (List.getElem?_eq_getElem _) ei
  exact ⟨_, List.getElem_mem _, this⟩
theorem tvR (rep : Rep os R F S L) (u : Uq fs) (v : ItsV K H os fs) (rt : ∀ e ∈ R, SqT K H e.2.1 e.2.2) : TV K H (fun b : Addr × List V => V.ref b.1) R (fkD 0 fs) := by
  refine ⟨rep.rn, fun n b e => ?_, fun n d e => ?_⟩
  · obtain ⟨a, m⟩ := (rep.r n b.2).mp ⟨b.1, e⟩
    obtain ⟨f, mf, hf, ho⟩ := v.get m
    have d1 := hf.dp
    cases f with
    | rel n' cs r =>
      obtain rfl : n = n' := hf.1
      exact ⟨_, fk_of u mf (fun z => nomatch z), .tup (rt _ (valG_mem e)) d1, fvE_gd ho (fun z => nomatch z)⟩
    | _ => exact hf.elim
  · obtain ⟨f, mf, e1, e2, rfl⟩ := fk_mem e
    obtain ⟨t, mt, hf, ho⟩ := v.teg mf
    obtain ⟨a, i⟩ := t
    cases f with
    | rel n' cs r =>
      cases i with
      | rel m c =>
        have e2 : n' = n := e2
        have e3 : m = n' := hf.1
        obtain ⟨q, e4⟩ := (rep.r m c).mpr ⟨a, mt⟩
        exact ⟨(q, c), by rw [← e2, ← e3]; exact e4⟩
      | _ => exact hf.elim
    | _ => cases e1
theorem tvS (rep : Rep os R F S L) (u : Uq fs) (v : ItsV K H os fs) (rt : ∀ e ∈ S, SqT K H e.2.1 e.2.2) : TV K H (fun b : Addr × List V => V.ref b.1) S (fkD 2 fs) := by
  refine ⟨rep.sn, fun n b e => ?_, fun n d e => ?_⟩
  · obtain ⟨a, m⟩ := (rep.s n b.2).mp ⟨b.1, e⟩
    obtain ⟨f, mf, hf, ho⟩ := v.get m
    have d1 := hf.dp
    cases f with
    | str n' rn cs r s =>
      obtain rfl : n = n' := hf.1
      exact ⟨_, fk_of u mf (fun z => nomatch z), .tup (rt _ (valG_mem e)) d1, fvE_gd ho (fun z => nomatch z)⟩
    | _ => exact hf.elim
  · obtain ⟨f, mf, e1, e2, rfl⟩ := fk_mem e
    obtain ⟨t, mt, hf, ho⟩ := v.teg mf
    obtain ⟨a, i⟩ := t
    cases f with
    | str n' rn cs r s =>
      cases i with
      | str m c =>
        have e2 : n' = n := e2
        have e3 : m = n' := hf.1
        obtain ⟨q, e4⟩ := (rep.s m c).mpr ⟨a, mt⟩
        exact ⟨(q, c), by rw [← e2, ← e3]; exact e4⟩
      | _ => exact hf.elim
    | _ => cases e1
theorem tvL (rep : Rep os R F S L) (u : Uq fs) (v : ItsV K H os fs) : TV K H (id : V → V) L (fkD 3 fs) := by
  refine ⟨rep.ln, fun n b e => ?_, fun n d e => ?_⟩
  · obtain ⟨a, m⟩ := (rep.l n b).mp e
    obtain ⟨f, mf, hf, ho⟩ := v.get m
    cases f with
    | lay n' cs =>
      obtain ⟨e1, ct, e2, h2⟩ := hf
      obtain rfl : n = n' := e1
      obtain rfl : b = .ref ct := e2
      exact ⟨_, fk_of u mf (fun z => nomatch z), .tup h2 (strD cs), fvE_gd ho (fun z => nomatch z)⟩
    | _ => exact hf.elim
  · obtain ⟨f, mf, e1, e2, rfl⟩ := fk_mem e
    obtain ⟨t, mt, hf, ho⟩ := v.teg mf
    obtain ⟨a, i⟩ := t
    cases f with
    | lay n' cs =>
      cases i with
      | lay m c =>
        have e2 : n' = n := e2
        have e3 : m = n' := hf.1
        exact ⟨c, by rw [← e2, ← e3]; exact (rep.l m c).mpr ⟨a, mt⟩⟩
      | _ => exact hf.elim
    | _ => cases e1
end
def schF (fs : List Fv) : List Fv := fs.filter fun v => decide (fvS v ≠ 1)
theorem mem_schF {fs : List Fv} {v : Fv} : v ∈ schF fs ↔ v ∈ fs ∧ fvS v ≠ 1 := by
  unfold schF
  rw [List.mem_filter, decide_eq_true_iff]
def schB (fs gs : List Fv) : Bool := PyData.eqv (.list ((schF fs).map fvFull)) (.list ((schF gs).map fvFull))
theorem eqvAll_full : ∀ {fs gs : List Fv}, (∀ v ∈ fs, FvOk v) → (∀ v ∈ gs, FvOk v) → (PyData.eqvAll (fs.map fvFull) (gs.map fvFull) = true ↔ fs = gs)
  | [], [], _, _ => by rw [List.map_nil, eqv_nil]; exact ⟨fun _ => rfl, fun _ => rfl⟩
  | [], g :: gs, _, _ => by rw [List.map_nil, List.map_cons, eqv_nc]; exact ⟨(fun h => nomatch h), fun h => nomatch h⟩
  | f :: fs, [], _, _ => by rw [List.map_nil, List.map_cons, eqv_cn]; exact ⟨(fun h => nomatch h), fun h => nomatch h⟩
  | f :: fs, g :: gs, hf, hg => by
    rw [List.map_cons, List.map_cons, eqv_cons, Bool.and_eq_true, eqvAll_full (fun v m => hf v (List.mem_cons_of_mem _ m)) fun v m => hg v (List.mem_cons_of_mem _ m)]
    constructor
    · rintro ⟨a, b⟩
      rw [full_inj (hf f List.mem_cons_self) (hg g List.mem_cons_self) a, b]
    · intro e
      obtain ⟨e1, e2⟩ := List.cons.inj e
      subst e1
      exact ⟨eqv_self _ (full_gd (hf f List.mem_cons_self)).i, e2⟩
theorem schB_iff {fs gs : List Fv} (hf : ∀ v ∈ fs, FvOk v) (hg : ∀ v ∈ gs, FvOk v) : schB fs gs = true ↔ schF fs = schF gs := by
  unfold schB
  rw [eqv_lst]
  exact eqvAll_full (fun v m => hf v (mem_schF.mp m).1) fun v m => hg v (mem_schF.mp m).1
theorem schB_symm {fs gs : List Fv} (hf : ∀ v ∈ fs, FvOk v) (hg : ∀ v ∈ gs, FvOk v) : schB fs gs = schB gs fs := by
  rw [Bool.eq_iff_iff, schB_iff hf hg, schB_iff hg hf]
  exact eq_comm
theorem pw_ext {α : Type} {r : α → α → Prop} : ∀ {xs ys : List α}, (∀ a ∈ xs, ∀ b ∈ xs, r a b → ¬ r b a) → (∀ a ∈ xs, ¬ r a a) → xs.Pairwise r → ys.Pairwise r → (∀ a, a ∈ xs ↔ a ∈ ys) → xs = ys
  | [], [], _, _, _, _, _ => rfl
  | [], y :: ys, _, _, _, _, h => nomatch (h y).mpr List.mem_cons_self
  | x :: xs, [], _, _, _, _, h => nomatch (h x).mp List.mem_cons_self
  | x :: xs, y :: ys, as, ir, px, py, h => by
    obtain ⟨px1, px2⟩ := List.pairwise_cons.mp px
    obtain ⟨py1, py2⟩ := List.pairwise_cons.mp py
    have e : x = y := by
      rcases List.mem_cons.mp ((h x).mp List.mem_cons_self) with z | m1
      · exact z
      · rcases List.mem_cons.mp ((h y).mpr List.mem_cons_self) with z | m2
        · exact z.symm
        · exact (as x List.mem_cons_self y (List.mem_cons_of_mem _ m2) (px1 y m2) (py1 x m1)).elim
    subst e
    rw [pw_ext (fun a ma b mb => as a (List.mem_cons_of_mem _ ma) b (List.mem_cons_of_mem _ mb)) (fun a m => ir a (List.mem_cons_of_mem _ m)) px2 py2 fun a => ?_]
    have ix := ir x List.mem_cons_self
    constructor
    · intro m
      rcases List.mem_cons.mp ((h a).mp (List.mem_cons_of_mem _ m)) with z | w
      · subst z; exact (ix (px1 a m)).elim
      · exact w
    · intro m
      rcases List.mem_cons.mp ((h a).mpr (List.mem_cons_of_mem _ m)) with z | w
      · subst z; exact (ix (py1 a m)).elim
      · exact w
theorem fvK_sc {v : Fv} (o : FvOk v) : tSc (fvK v) := by
  cases v with
  | fact n row => exact o.2.1
  | _ => exact fun x m => nomatch m
theorem fv_pw {K : PySem.W.Frag} {H : Hp} : ∀ {os : Its} {fs : List Fv}, KSrt os → ItsV K H os fs → fs.Pairwise fun a b => tLt (fvK a) (fvK b)
  | [], [], _, _ => .nil
  | [], _ :: _, _, v => by cases v.1
  | _ :: _, [], _, v => by cases v.1
  | t :: os, f :: fs, k, v => by
    obtain ⟨k1, k2⟩ := List.pairwise_cons.mp k
    have v2 : ItsV K H os fs := ⟨Nat.succ.inj v.1, fun i u w e f => v.2 (i + 1) u w e f⟩
    refine .cons (fun g mg => ?_) (fv_pw k2 v2)
    obtain ⟨u, mu, hu, _⟩ := v2.teg mg
    have l := k1 u mu
    have a := (v.2 0 t f rfl rfl).1.k
    unfold tLt at l ⊢
    rw [show tOrd (te t) (te u) = tOrd (fvK f) (fvK g) from tOrd_cong a hu.k] at l
    exact l
theorem sch_iff {K : PySem.W.Frag} {H : Hp} {os os2 : Its} {fs gs : List Fv} (k : KSrt os) (s : ScI os) (v : ItsV K H os fs) (k2 : KSrt os2) (s2 : ScI os2) (v2 : ItsV K H os2 gs) :
    schF fs = schF gs ↔ AgrD (fkD 0 fs) (fkD 0 gs) ∧ AgrD (fkD 2 fs) (fkD 2 gs) ∧ AgrD (fkD 3 fs) (fkD 3 gs) := by
  have u := uq_of k s v
  have u2 := uq_of k2 s2 v2
  have of_ := v.okF
  have og := v2.okF
  constructor
  · intro e
    have one : ∀ {fs gs : List Fv}, Uq gs → schF fs = schF gs → ∀ {k n d}, k ≠ 1 → fkD k fs n = some d → fkD k gs n = some d := fun {fs gs} u2 e k n d hk h => by
      obtain ⟨f, mf, e1, e2, rfl⟩ := fk_mem h
      have m := mem_schF.mpr ⟨mf, by rw [e1]; exact hk⟩
      rw [e] at m
      rw [← e1, ← e2]
      exact fk_of u2 (mem_schF.mp m).1 (mem_schF.mp m).2
    have all : ∀ k, k ≠ 1 → AgrD (fkD k fs) (fkD k gs) := fun k hk => by
      refine ⟨fun n => ⟨fun ⟨d, h⟩ => ⟨d, one u2 e hk h⟩, fun ⟨d, h⟩ => ⟨d, one u e.symm hk h⟩⟩, fun n d d' h h' => ?_⟩
      rw [one u2 e hk h] at h'
      rw [← Option.some.inj h']
      obtain ⟨f, mf, e1, e2, rfl⟩ := fk_mem h
      exact eqv_self _ (fvE_gd (of_ f mf) (by rw [e1]; exact hk)).i
    exact ⟨all 0 (by decide), all 2 (by decide), all 3 (by decide)⟩
  · rintro ⟨a0, a2, a3⟩
    have ag : ∀ f : Fv, fvS f ≠ 1 → AgrD (fkD (fvS f) fs) (fkD (fvS f) gs) := fun f h => by
      cases f with
      | rel _ _ _ => exact a0
      | fact _ _ => exact absurd rfl h
      | str _ _ _ _ _ => exact a2
      | lay _ _ => exact a3
    have sub : ∀ f, f ∈ schF fs → f ∈ schF gs := fun f m => by
      obtain ⟨m, h1⟩ := mem_schF.mp m
      have e := fk_of u m h1
      obtain ⟨d, e'⟩ := ((ag f h1).1 (fvN f)).mp ⟨_, e⟩
      have q := (ag f h1).2 _ _ _ e e'
      obtain ⟨g, mg, e1, e2, rfl⟩ := fk_mem e'
      have := fvE_inj e1.symm h1 e2.symm q
      rw [this] at h1 ⊢
      exact mem_schF.mpr ⟨mg, h1⟩
    have bus : ∀ f, f ∈ schF gs → f ∈ schF fs := fun f m => by
      obtain ⟨m, h1⟩ := mem_schF.mp m
      have e := fk_of u2 m h1
      obtain ⟨d, e'⟩ := ((ag f h1).1 (fvN f)).mpr ⟨_, e⟩
      have q := (ag f h1).2 _ _ _ e' e
      obtain ⟨g, mg, e1, e2, rfl⟩ := fk_mem e'
      have := fvE_inj e1 (by rw [e1]; exact h1) e2 q
      rw [← this] at h1 ⊢
      exact mem_schF.mpr ⟨mg, h1⟩
    refine pw_ext (r := fun a b => tLt (fvK a) (fvK b)) (fun a ma b mb => ?_) (fun a ma => ?_) (List.Pairwise.sublist List.filter_sublist (fv_pw k v)) (List.Pairwise.sublist List.filter_sublist (fv_pw k2 v2)) fun a => ⟨sub a, bus a⟩
    · exact tLt_asym (fvK_sc (of_ a (mem_schF.mp ma).1)) (fvK_sc (of_ b (mem_schF.mp mb).1))
    · exact tLt_irr (fvK_sc (of_ a (mem_schF.mp ma).1))
end K1
namespace K1
open PySem PySem.Spec PyProof.Rows L2 Ow Tlz
def spSchema (K : PySem.W.Frag) (C : Addr) : Sp := fun vs H Q _ => ∃ (x y dr df ds dl dr2 df2 ds2 dl2 : Addr) (Z Z2 : Addr → Prop) (R S R2 S2 : Tb) (F F2 : Fb) (L L2 : List (Str × V)) (b b2 : Nat) (os os2 : Its) (fs gs : List Fv), vs = [.ref x, .ref y] ∧ SV K C H x dr df ds dl Z R S F L b os fs ∧ SV K C H y dr2 df2 ds2 dl2 Z2 R2 S2 F2 L2 b2 os2 gs ∧ Q (.bl (schB fs gs)) H
section
variable {P : Program} {w : World} {K : PySem.W.Frag} {mg : Str → Option Value} {base : Heap} {C : Addr}
theorem ok_schema {f : Addr} {fd : FuncData} (F0 : Fun K "same_schema" "State.same_schema" sState_same_schema f fd) (X : Txt K mg C) : FnOk P w K mg base CX0 1 f fd ["self", "other"] (spSchema K C) := by
  refine F0.ok scState_same_schema (fun vs H Q E h => ?_) (fun cdv A outer s0 H vs Q E hr h => ?_)
  · obtain ⟨x, y, dr, df, ds, dl, dr2, df2, ds2, dl2, Z, Z2, R, S, R2, S2, F, F2, L, L2, b, b2, os, os2, fs, gs, rfl, _⟩ := h
    rfl
  · obtain ⟨x, y, dr, df, ds, dl, dr2, df2, ds2, dl2, Z, Z2, R, S, R2, S2, F, F2, L, L2, b, b2, os, os2, fs, gs, rfl, sv, sv2, q⟩ := h
    refine ⟨_, (pss_cons (ps_if (pt_cmpR (op_neDD (hu64 hr)) (pe_fld (pv 0) rfl) (pe_fld (pv 1) rfl) (nomark _)) (pss_one (ps_ret pe_bl)) pss_nil)
      (pss_one (ps_ret (pe_and (pe_cmpR (op_eqDD (hu64 hr)) (pe_fld (pv 0) rfl) (pe_fld (pv 1) rfl) (nomark _)) (pe_one (pe_cmpR (op_eqDD (hu64 hr)) (pe_fld (pv 0) rfl) (pe_fld (pv 1) rfl) (nomark _))))))), ?_⟩
    obtain ⟨dx, ob⟩ := sv.st.ob
    obtain ⟨dx2, ob2⟩ := sv2.st.ob
    have u := uq_of sv.k sv.g.sc sv.v
    have u2 := uq_of sv2.k sv2.g.sc sv2.v
    have r1 := tvR sv.rep u sv.v sv.st.rt
    have r2 := tvR sv2.rep u2 sv2.v sv2.st.rt
    have s1 := tvS sv.rep u sv.v sv.st.st
    have s2 := tvS sv2.rep u2 sv2.v sv2.st.st
    have l1 := tvL sv.rep u sv.v
    have l2 := tvL sv2.rep u2 sv2.v
    have er := r1.eq_iff r2
    have es := s1.eq_iff s2
    have el := l1.eq_iff l2
    have key := (schB_iff sv.v.okF sv2.v.okF).trans (sch_iff sv.k sv.g.sc sv.v sv2.k sv2.g.sc sv2.v)
    rw [← er, ← es, ← el] at key
    have eb : schB fs gs = (eqDD (kvR R) (kvR R2) (dvK (fkD 0 fs)) (dvK (fkD 0 gs)) && (eqDD (kvR S) (kvR S2) (dvK (fkD 2 fs)) (dvK (fkD 2 gs)) && eqDD (kvG id L) (kvG id L2) (dvK (fkD 3 fs)) (dvK (fkD 3 gs)))) := by
      rw [Bool.eq_iff_iff, Bool.and_eq_true, Bool.and_eq_true]
      exact key
    rw [eb] at q
    refine ⟨_, rfl, x, C, dx, _, _, rfl, ob, X.cl, X.nR, flds_r _ _ _ _, _, rfl, y, C, dx2, _, _, rfl, ob2, X.cl, X.nR, flds_r _ _ _ _, ?_⟩
    refine ⟨dr, dr2, kvR R, kvR R2, dvK (fkD 0 fs), dvK (fkD 0 gs), rfl, rfl, sv.st.r, sv2.st.r, r1.deq r2, _, rfl, ?_⟩
    cases zr : eqDD (kvR R) (kvR R2) (dvK (fkD 0 fs)) (dvK (fkD 0 gs)) with
    | false =>
      rw [zr] at q
      exact iteT q
    | true =>
      rw [zr] at q
      refine iteF ?_
      refine ⟨_, rfl, x, C, dx, _, _, rfl, ob, X.cl, X.nS, flds_s _ _ _ _, _, rfl, y, C, dx2, _, _, rfl, ob2, X.cl, X.nS, flds_s _ _ _ _, ?_⟩
      refine ⟨ds, ds2, kvR S, kvR S2, dvK (fkD 2 fs), dvK (fkD 2 gs), rfl, rfl, sv.st.s, sv2.st.s, s1.deq s2, ?_⟩
      cases zs : eqDD (kvR S) (kvR S2) (dvK (fkD 2 fs)) (dvK (fkD 2 gs)) with
      | false =>
        rw [zs] at q
        exact ⟨_, rfl, q⟩
      | true =>
        rw [zs] at q
        refine ⟨_, rfl, ?_⟩
        refine ⟨_, rfl, x, C, dx, _, _, rfl, ob, X.cl, X.nL, flds_l _ _ _ _, _, rfl, y, C, dx2, _, _, rfl, ob2, X.cl, X.nL, flds_l _ _ _ _, ?_⟩
        exact ⟨dl, dl2, kvG id L, kvG id L2, dvK (fkD 3 fs), dvK (fkD 3 gs), rfl, rfl, sv.st.l, sv2.st.l, l1.deq l2, by rw [Bool.true_and, Bool.true_and] at q; rw [Bool.false_xor]; exact q⟩
end
end K1
namespace K1
open PySem PySem.Spec PyProof.Rows L2 Ow Tlz
abbrev slaw : Stmt := topS 39
abbrev Nlaw : List Str := ["script", "state", "items", "first", "second", "one", "other", "changes", "alike", "passed", "made", "name", "rows"]
theorem sclaw : FnScope Nlaw ["script"] (defScope slaw) := ⟨rfl, rfl, rfl, by decide +kernel, rfl, by decide +kernel, by decide +kernel⟩
def spLaw (K : PySem.W.Frag) : Sp := fun vs H Q _ => ∃ (a : Addr) (ns : List Int), vs = [.ref a] ∧ SqL K H a (ns.map V.int) ∧ ns.length ≤ 63 ∧ ∀ H', Q (.bl true) H'
theorem plc_sub {os : Its} {t u : Addr × It} (h : u ∈ plc os t) : u = t ∨ u ∈ os := by
  unfold plc at h
  rcases List.mem_append.mp h with h | h
  · rcases List.mem_append.mp h with h | h
    · exact .inr (List.mem_filter.mp (List.mem_of_mem_take h)).1
    · exact .inl (List.mem_singleton.mp h)
  · exact .inr (List.mem_filter.mp (List.mem_of_mem_drop h)).1
theorem fold_sub : ∀ (cs : List Chg) (os : Its) {u : Addr × It}, u ∈ cs.foldl stepC os → u ∈ os ∨ Chg.comes u ∈ cs
  | [], os, u, h => .inl h
  | c :: cs, os, u, h => by
    rcases fold_sub cs (stepC os c) h with h | h
    · cases c with
      | comes t =>
        rcases plc_sub h with z | z
        · subst z; exact .inr List.mem_cons_self
        · exact .inl z
      | goes s n row => exact .inl (List.mem_filter.mp h).1
    · exact .inr (List.mem_cons_of_mem _ h)
section
variable {K : PySem.W.Frag} {H : Hp}
theorem ChgsAt.comes {xs : List V} {cs : List Chg} (h : ChgsAt K H xs cs) {t : Addr × It} (m : Chg.comes t ∈ cs) : ItG K H t.1 t.2 := by
  obtain ⟨i, ei⟩ := List.mem_iff_getElem?.mp m
  have hi := (List.getElem?_eq_some_iff.mp ei).1
  have l := h.1
  obtain ⟨_, _, _, g⟩ := h.2 i (xs[i]'(by omega)) _ (List.getElem?_eq_getElem _) ei
  exact g
theorem fold_g {os : Its} {xs : List V} {cs : List Chg} (g : ItsG K H os) (h : ChgsAt K H xs cs) : ItsG K H (cs.foldl stepC os) := fun u m => by
  rcases fold_sub cs os m with z | z
  · exact g u z
  · exact h.comes z
theorem plc_lastT {os : Its} {t : Addr × It} (h : ∀ u ∈ os, tLt (te u) (te t)) : plc os t = os ++ [t] := by
  unfold plc
  have e1 : (os.filter fun u => decide (tOrd (te u) (te t) ≠ 0)) = os := List.filter_eq_self.mpr fun u m => by
    have h1 : tOrd (te u) (te t) < 0 := h u m
    exact decide_eq_true (by omega)
  have e2 : (os.countP fun u => decide (tOrd (te u) (te t) < 0)) = os.length := List.countP_eq_length.mpr fun u m => decide_eq_true (h u m)
  rw [e1, e2, List.take_length, List.drop_length, List.append_nil]
theorem plcAll_self (os : Its) : KSrt os → plcAll os = os := by
  refine snoc_ind (P := fun os => KSrt os → plcAll os = os) (fun _ => rfl) (fun os t ih => ?_) os
  intro ks
  obtain ⟨k1, _, k2⟩ := List.pairwise_append.mp ks
  rw [plcAll_snoc, ih k1, plc_lastT fun u m => k2 u m t (List.mem_singleton.mpr rfl)]
theorem fold_srt : ∀ {xs : List V} {cs : List Chg} {os : Its}, KSrt os → ScI os → ChgsAt K H xs cs → KSrt (cs.foldl stepC os)
  | _, [], os, k, _, _ => k
  | [], _ :: _, _, _, _, h => by cases h.1
  | x :: xs, c :: cs, os, k, s, h => by
    have h0 := h.2 0 x c rfl rfl
    rw [List.foldl_cons]
    refine fold_srt (xs := xs) (cs := cs) (os := stepC os c) ?_ (step_sc s h0) ⟨Nat.succ.inj h.1, fun i u w e f => h.2 (i + 1) u w e f⟩
    cases c with
    | comes t =>
      obtain ⟨_, _, _, g⟩ := h0
      exact plc_srt k s g.sc
    | goes s n row => exact List.Pairwise.sublist List.filter_sublist k
theorem Tw.self {t : Addr × It} (h : ItV K H t) : Tw K H t t := by
  obtain ⟨v, a, b⟩ := h
  exact ⟨v, b, a, a⟩
theorem Twl.self : ∀ {os : Its}, (∀ t ∈ os, ItV K H t) → Twl K H os os
  | [], _ => .nil
  | t :: os, h => .cons (Tw.self (h t List.mem_cons_self)) (Twl.self fun u m => h u (List.mem_cons_of_mem _ m))
theorem ChgTws.self : ∀ {cs : List Chg}, CsV K H cs → ChgTws K H cs cs
  | [], _ => .nil
  | .comes t :: cs, h => .cons (Tw.self (h t List.mem_cons_self)) (ChgTws.self fun u m => h u (List.mem_cons_of_mem _ m))
  | .goes s n row :: cs, h => .cons ⟨rfl, rfl, rfl⟩ (ChgTws.self fun u m => h u (List.mem_cons_of_mem _ m))
theorem goes_self {os : Its} (s : ScI os) : goesL os os = [] := by
  unfold goesL
  rw [List.map_eq_nil_iff, List.filter_eq_nil_iff]
  intro t m
  have : (os.any fun u => decide (tOrd (te u) (te t) = 0)) = true := List.any_eq_true.mpr ⟨t, m, decide_eq_true ((tOrd_zero (s t m) (s t m)).mpr ⟨rfl, rfl, rfl⟩)⟩
  rw [this]
  decide
theorem comes_self {fs : List Fv} {its : Its} (o : ∀ v ∈ fs, FvOk v) : comesL fs (its.zip fs) = [] := by
  unfold comesL
  rw [List.map_eq_nil_iff, List.filter_eq_nil_iff]
  rintro ⟨t, v⟩ m
  have mv := (List.of_mem_zip m).2
  have : (fs.any fun w => PyData.eqv (fvFull w) (fvFull v)) = true := List.any_eq_true.mpr ⟨v, mv, eqv_self _ (full_gd (o v mv)).i⟩
  unfold newB
  rw [this]
  decide
theorem its_filter : ∀ {os : Its} {fs : List Fv}, ItsV K H os fs → ItsV K H (schL os) (schF fs)
  | [], [], _ => ⟨rfl, fun i t v e => by simp [schL] at e⟩
  | [], _ :: _, v => by cases v.1
  | _ :: _, [], v => by cases v.1
  | t :: os, f :: fs, v => by
    have ih := its_filter (os := os) (fs := fs) ⟨Nat.succ.inj v.1, fun i u w e f => v.2 (i + 1) u w e f⟩
    obtain ⟨a, b⟩ := v.2 0 t f rfl rfl
    have e : (!isFact t) = decide (fvS f ≠ 1) := by
      obtain ⟨ad, i⟩ := t
      cases i <;> cases f <;> first | exact a.elim | rfl
    unfold schL schF at ih ⊢
    rw [List.filter_cons, List.filter_cons, e]
    by_cases z : decide (fvS f ≠ 1) = true
    · rw [if_pos z, if_pos z]
      refine ⟨by rw [List.length_cons, List.length_cons, ih.1], fun i u w eu ew => ?_⟩
      cases i with
      | zero => cases eu; cases ew; exact ⟨a, b⟩
      | succ i => exact ih.2 i u w eu ew
    · rw [if_neg z, if_neg z]
      exact ih
end
section
variable {P : Program} {w : World} {K : PySem.W.Frag} {mg : Str → Option Value} {base : Heap} {C : Addr}
theorem ok_law {f : Addr} {fd : FuncData} (F0 : Fun K "law" "law" slaw f fd) (T0 : Bl mg) (X : Txt K mg C) (St : Sta P w K mg base C)
    (D_law_draws : Kn P w K mg base 2 "_law_draws" ["script"] (spDraws K)) (D_law_next : Kn P w K mg base 3 "_law_next" ["state", "limit"] spNext) (D_law_some_items : Kn P w K mg base 8 "_law_some_items" ["state", "most"] (spSome4 K))
    (D_law_changed : Kn P w K mg base 5 "_law_changed" ["ordered", "changes"] (spLChanged K)) (D_law_drawn_changes : Kn P w K mg base 8 "_law_drawn_changes" ["state", "ordered"] (spLDrawn K))
    (Dbetween : Kn P w K mg base 2 "between" ["first", "second"] (spBetween K C)) (D_law_between : Kn P w K mg base 2 "_law_between" ["first", "second"] (spLBetween K))
    (D_law_same : Kn P w K mg base 6 "_law_same" ["actual", "expected"] (spSm K 5)) (D_law_is_state : Kn P w K mg base 6 "_law_is_state" ["actual", "ordered"] (spIsSt2 K C)) (D_law_schema : Kn P w K mg base 1 "_law_schema" ["ordered"] (spLSchema K))
    (Schange : Kmt P w K mg base C 9 "change" ["self", "changes"] (spChange K C)) (Sschema : Kmt P w K mg base C 1 "same_schema" ["self", "other"] (spSchema K C)) :
    FnOk P w K mg base CX0 10 f fd ["script"] (spLaw K) := by
  obtain ⟨fI, fdI, a0, dsI, M, GI, GI0, bI, bI0, vI0, hA0⟩ := St.ex
  refine F0.ok sclaw (fun vs H Q E h => ?_) (fun cdv A outer s0 H vs Q E hr h => ?_)
  · obtain ⟨a, ns, rfl, _⟩ := h
    rfl
  · obtain ⟨a, ns, rfl, hS, hlen, q⟩ := h
    have hr7 := hr.mono (show 7 ≤ 9 by decide)
    refine ⟨_, (pss_cons (ps_set (i := 1) sclaw.nd rfl (.inl rfl) (pe_lst (pa_cons (pe_kn D_law_draws hr (pa_cons (pv 0) pa_nil)) (pa_cons pe_int pa_nil))))
      (pss_cons (ps_asg (pe_kn D_law_some_items hr (pa_cons (pv 1) (pa_cons pe_int pa_nil))) (pg_lst rfl (pgs_cons (pg_name (i := 2) sclaw.nd rfl (.inl rfl)) (pgs_cons (pg_name (i := 3) sclaw.nd rfl (.inl rfl)) pgs_nil))))
      (pss_cons (ps_asg (pe_kn D_law_some_items hr (pa_cons (pv 1) (pa_cons pe_int pa_nil))) (pg_lst rfl (pgs_cons (pg_name (i := 2) sclaw.nd rfl (.inl rfl)) (pgs_cons (pg_name (i := 4) sclaw.nd rfl (.inl rfl)) pgs_nil))))
      (pss_mid (ps_if (pt_cmpR op_eq (pe_kn D_law_next hr (pa_cons (pv 1) (pa_cons pe_int pa_nil))) pe_int (nomark _)) (pss_one (ps_set (i := 4) sclaw.nd rfl (.inl rfl) (pe_kn D_law_changed hr (pa_cons (pv 3) (pa_cons (pe_kn D_law_drawn_changes hr (pa_cons (pv 1) (pa_cons (pv 3) pa_nil))) pa_nil))))) pss_nil)
      (pss_cons (ps_set (i := 5) sclaw.nd rfl (.inl rfl) (pe_make M GI hr7 (by rfl) X.mgC bI .nil pass0 (pa_cons (pe_callTy call_list_of (by rfl) T0.list (by decide +kernel) (pa_cons (pv 3) pa_nil)) pa_nil)))
      (pss_cons (ps_set (i := 6) sclaw.nd rfl (.inl rfl) (pe_make M GI hr7 (by rfl) X.mgC bI .nil pass0 (pa_cons (pe_callTy call_list_of (by rfl) T0.list (by decide +kernel) (pa_cons (pv 4) pa_nil)) pa_nil)))
      (pss_cons (ps_set (i := 7) sclaw.nd rfl (.inl rfl) (pe_kn Dbetween hr (pa_cons (pv 5) (pa_cons (pv 6) pa_nil))))
      (pss_cons (ps_if (PW.pt (pw_or (pt_not (pt_val (pe_kn D_law_same hr (pa_cons (pv 7) (pa_cons (pe_kn D_law_between hr (pa_cons (pv 3) (pa_cons (pv 4) pa_nil))) pa_nil))))) (pw_or1 (pt_not (pt_val (pe_kn D_law_is_state hr (pa_cons (pe_mt Schange hr (pv 5) (pa_cons (pv 7) pa_nil)) (pa_cons (pv 4) pa_nil)))))))) (pss_one (ps_ret pe_bl)) pss_nil)
      (pss_cons (ps_if (PW.pt (pw_or (pt_not (pt_val (pe_kn D_law_same hr (pa_cons (pe_kn Dbetween hr (pa_cons (pv 5) (pa_cons (pv 5) pa_nil))) (pa_cons (pe_lst pa_nil) pa_nil))))) (pw_or (pt_not (pt_val (pe_kn D_law_is_state hr (pa_cons (pv 5) (pa_cons (pv 3) pa_nil))))) (pw_or1 (pt_not (pt_val (pe_kn D_law_is_state hr (pa_cons (pv 6) (pa_cons (pv 4) pa_nil))))))))) (pss_one (ps_ret pe_bl)) pss_nil)
      (pss_cons (ps_set (i := 8) sclaw.nd rfl (.inl rfl) (pe_cmpR (op_eqD (hu64 hr)) (pe_kn D_law_schema hr (pa_cons (pv 3) pa_nil)) (pe_kn D_law_schema hr (pa_cons (pv 4) pa_nil)) (nomark _)))
      (pss_cons (ps_if (PW.pt (pw_or (pt_not (pt_val (pe_kn D_law_same hr (pa_cons (pe_mt Sschema hr (pv 5) (pa_cons (pv 6) pa_nil)) (pa_cons (pv 8) pa_nil))))) (pw_or1 (pt_not (pt_val (pe_kn D_law_same hr (pa_cons (pe_mt Sschema hr (pv 6) (pa_cons (pv 5) pa_nil)) (pa_cons (pv 8) pa_nil)))))))) (pss_one (ps_ret pe_bl)) pss_nil)
      (pss_cons (ps_set (i := 7) sclaw.nd rfl (.inl rfl) (pe_kn D_law_drawn_changes hr (pa_cons (pv 1) (pa_cons (pv 3) pa_nil))))
      (pss_cons (ps_set (i := 9) sclaw.nd rfl (.inl rfl) (pe_callTy call_list_of (by rfl) T0.list (by decide +kernel) (pa_cons (pv 7) pa_nil)))
      (pss_cons (ps_set (i := 10) sclaw.nd rfl (.inl rfl) (pe_mt Schange hr (pv 5) (pa_cons (pv 9) pa_nil)))
      (pss_cons (ps_if (PW.pt (pw_or (pt_not (pt_val (pe_kn D_law_is_state hr (pa_cons (pv 10) (pa_cons (pe_kn D_law_changed hr (pa_cons (pv 3) (pa_cons (pv 7) pa_nil))) pa_nil))))) (pw_or1 (pt_cmpR (op_neD (hu64 hr)) (pv 9) (pv 7) (nomark _))))) (pss_one (ps_ret pe_bl)) pss_nil)
      (pss_cons (ps_lock (ps_for PassesOwn.never rfl (pi_keys (pe_fld (pv 10) rfl)) (pg_name (i := 11) sclaw.nd rfl (.inl rfl)) (pss_cons (ps_set (i := 12) sclaw.nd rfl (.inl rfl) (pe_dget (hu_of hr) (pe_fld (pv 10) rfl) (pv 11) (fun _ _ => rfl)))
      (pss_one (ps_expr (pe_bm PySem.F.plainAttrs_list PySem.F.slot_list_append PySem.F.type_list_append mt_append (pv 12) (pa_cons (pe_tup (pa_cons pe_str pa_nil)) pa_nil)))))))
      (pss_one (ps_ret (pe_kn D_law_is_state hr (pa_cons (pv 5) (pa_cons (pv 3) pa_nil))))))))))))))))))))), ?_⟩
    -- state
    refine ⟨_, rfl, a, ns, rfl, hS, hlen, ?_⟩
    intro H1 d dsn sm1 nd ed
    refine ⟨sz 2, fun p np => ?_⟩
    have ndp : d ≠ p := ne_of_none ed np
    have rg2 : Rng d (upd H1 p (.lst [.ref d, .int 20])) p := ⟨dsn, 20, upd_same, by decide, by rw [upd_ne ndp]; exact ed⟩
    generalize (upd H1 p (.lst [.ref d, .int 20])) = H2 at rg2 ⊢
    -- first
    refine ⟨_, rfl, p, d, 14, rfl, by decide, rg2, ?_⟩
    rintro x3 H3 ⟨qq, l, o, its, rfl, eqq, el, eo, ig, iv, li, lo, lp, op, ld, od_⟩ gw3 rg3
    refine ⟨qq, _, rfl, SqL.of eqq, rfl, _, _, rfl, _, _, rfl, rfl, ?_⟩
    obtain ⟨ks, so, los, mos⟩ := plcAll_ok its ig.sc
    have og : ItsG K H3 (plcAll its) := fun u m => ig u (mos u m)
    have ov : ∀ t ∈ plcAll its, ItV K H3 t := fun u m => iv u (mos u m)
    have l14 : (plcAll its).length ≤ 14 := by omega
    generalize plcAll its = os at eo ks so og ov l14
    clear mos los ig iv el eqq rg2 gw3 li lo lp ld od_
    -- second
    refine ⟨_, rfl, p, d, 14, rfl, by decide, rg3, ?_⟩
    rintro x4 H4 ⟨qq2, l2, o2, its2, rfl, eqq2, el2, eo2, ig2, iv2, li2, lo2, lp2, op2, ld2, od2_⟩ gw4 rg4
    refine ⟨qq2, _, rfl, SqL.of eqq2, rfl, _, _, rfl, _, _, rfl, rfl, ?_⟩
    obtain ⟨ks2, so2, los2, mos2⟩ := plcAll_ok its2 ig2.sc
    have og2 : ItsG K H4 (plcAll its2) := fun u m => ig2 u (mos2 u m)
    have ov2 : ∀ t ∈ plcAll its2, ItV K H4 t := fun u m => iv2 u (mos2 u m)
    have l24 : (plcAll its2).length ≤ 14 := by omega
    generalize plcAll its2 = os2 at eo2 ks2 so2 og2 ov2 l24
    have t34 : Tk K H3 H4 := Rng.tk rg3 gw4
    have og4 := og.tk t34
    have ov4 : ∀ t ∈ os, ItV K H4 t := fun u m => (ov u m).tk t34
    have eo4 := gw4 _ _ op eo
    clear mos2 los2 ig2 iv2 el2 eqq2 li2 lo2 lp2 ld2 od2_ og ov eo t34 gw4
    -- changed or not
    refine ⟨fun σ H5 => ∃ (b2 : Addr) (os2 : Its), σ = [some (.ref a), some (.ref p), some (.ref l2), some (.ref o), some (.ref b2), none, none, none, none, none, none, none, none] ∧ Rng d H5 p ∧ H5 o = some (.lst (irf os)) ∧ ItsG K H5 os ∧ (∀ t ∈ os, ItV K H5 t) ∧
      SqL K H5 b2 (irf os2) ∧ ItsG K H5 os2 ∧ (∀ t ∈ os2, ItV K H5 t) ∧ KSrt os2 ∧ os2.length ≤ 40, ?_, ?_⟩
    · refine ⟨_, rfl, p, d, 2, rfl, by decide, rg4, ?_⟩
      rintro x5 H5 ⟨va, rfl, va0, va1⟩ gw5 rg5
      have t45 : Tk K H4 H5 := Rng.tk rg4 gw5
      have og5 := og4.tk t45
      have ov5 : ∀ t ∈ os, ItV K H5 t := fun u m => (ov4 u m).tk t45
      have eo5 := gw5 _ _ op eo4
      refine ⟨rfl, _, rfl, ite2 (fun _ => ?_) (fun _ => ?_)⟩
      · refine ⟨_, rfl, _, rfl, _, rfl, p, d, o, os, rfl, rg5, eo5, op, og5, ov5, by omega, ?_⟩
        rintro x6 H6 ⟨qc, xs, cs, rfl, eqc, n1, n2, n3, ch, cv, lc⟩ gw6 rg6
        have t56 : Tk K H5 H6 := Rng.tk rg5 gw6
        have og6 := og5.tk t56
        have ov6 : ∀ t ∈ os, ItV K H6 t := fun u m => (ov5 u m).tk t56
        have eo6 := gw6 _ _ op eo5
        refine ⟨o, qc, os, xs, cs, rfl, SqL.of eo6, og6, SqL.of eqc, ch, by omega, by omega, fun b2 H7 s7 hb gb => ?_⟩
        have fl := fold_len cs os
        refine ⟨b2, cs.foldl stepC os, rfl, rg6.same s7, s7 _ _ eo6, og6.same s7, fun u m => (ov6 u m).tk (Tk.same s7), hb, gb, fun u m => ?_, fold_srt ks so ch, by omega⟩
        rcases fold_sub cs os m with z | z
        · exact (ov6 u z).tk (Tk.same s7)
        · exact (cv u z).tk (Tk.same s7)
      · have eo25 := gw5 _ _ op2 eo2
        exact ⟨o2, os2, rfl, rg5, eo5, og5, ov5, SqL.of eo25, og2.tk t45, (fun u m => (ov2 u m).tk t45), ks2, by omega⟩
    clear og4 ov4 eo4 rg4 og2 ov2 ks2 so2 l24 eo2 op2 rg3
    rintro σ H5 ⟨b2, os2, rfl, rg5, eo5, og5, ov5, hb5, gb5, vb5, ks2, l2_⟩
    -- the first State
    refine ⟨_, rfl, o, _, rfl, .inl (SqL.of eo5), fun c1 nc1 => ?_⟩
    have s6 := Same.new (o := .lst (irf os)) nc1
    have ec1 := upd_same (H := H5) (a := c1) (o := .lst (irf os))
    generalize (upd H5 c1 (.lst (irf os))) = H6 at *
    refine fun x1 dx1 nx1 ndx1 nex1 => ?_
    have sm := same_make (C := C) nx1 ndx1
    refine ⟨x1, c1, dx1, os, rfl, upd_same, SqL.of (sm _ _ ec1), fun t m => (((og5.same s6) t m).same sm).at_, by omega, fun dr df ds dl R S F L H7 st7 pu gw7 => ⟨rfl, ?_⟩⟩
    have s7 := same_made nx1 ndx1 gw7
    have nZ : ∀ {b : Addr} {u : HO}, H6 b = some u → ¬ (fun b => (upd (upd H6 dx1 (.own x1)) x1 (.ins C dx1 [])) b = none) b := fun {b u} h z => by
      have z' : (upd (upd H6 dx1 (.own x1)) x1 (.ins C dx1 [])) b = none := z
      rw [sm _ _ h] at z'
      cases z'
    have rep : Rep os R F S L := by rw [← plcAll_self os ks]; exact pu.rep os rfl og5.sc
    generalize (fun b => (upd (upd H6 dx1 (.own x1)) x1 (.ins C dx1 [])) b = none) = Z1 at st7 nZ
    have zp : ¬ Z1 p := by obtain ⟨dd, k, h, _⟩ := rg5; exact nZ (s6 _ _ h)
    have s57 := s6.trans s7
    clear pu gw7 nZ sm nx1 ndx1 nex1 s7 ec1 s6 nc1
    -- the second State
    refine ⟨_, rfl, b2, _, rfl, .inl (s57.seq hb5), fun c2 nc2 => ?_⟩
    have s8 := Same.new (o := .lst (irf os2)) nc2
    have ec2 := upd_same (H := H7) (a := c2) (o := .lst (irf os2))
    generalize (upd H7 c2 (.lst (irf os2))) = H8 at *
    have s58 := s57.trans s8
    refine fun x2 dx2 nx2 ndx2 nex2 => ?_
    have sm := same_make (C := C) nx2 ndx2
    refine ⟨x2, c2, dx2, os2, rfl, upd_same, SqL.of (sm _ _ ec2), fun t m => (((gb5.same s58) t m).same sm).at_, by omega, fun dr2 df2 ds2 dl2 R2 S2 F2 L2 H9 st29 pu gw9 => ⟨rfl, ?_⟩⟩
    have s9 := same_made nx2 ndx2 gw9
    have rep2 : Rep os2 R2 F2 S2 L2 := by rw [← plcAll_self os2 ks2]; exact pu.rep os2 rfl gb5.sc
    generalize (fun b => (upd (upd H8 dx2 (.own x2)) x2 (.ins C dx2 [])) b = none) = Z2 at st29
    have s59 := s58.trans s9
    have st9 := st7.same (s8.trans s9)
    have rg9 := rg5.same s59
    have eo9 := s59 _ _ eo5
    have og9 := og5.same s59
    have ov9 : ∀ t ∈ os, ItV K H9 t := fun u m => (ov5 u m).tk (Tk.same s59)
    have hb9 := s59.seq hb5
    have gb9 := gb5.same s59
    obtain ⟨fs, fv9⟩ := itsV_of ov9
    obtain ⟨gs, gv9⟩ := itsV_of fun u m => (vb5 u m).tk (Tk.same s59)
    have so2 := gb9.sc
    clear pu gw9 sm nx2 ndx2 nex2 s9 ec2 s8 nc2 s58 s57 st7 rg5 eo5 og5 ov5 hb5 gb5 vb5 s59
    have sv9 : SV K C H9 x1 dr df ds dl Z1 R S F L 300 os fs := ⟨st9, Nat.le_refl _, rep, og9, fv9, ks, by omega⟩
    have sw9 : SV K C H9 x2 dr2 df2 ds2 dl2 Z2 R2 S2 F2 L2 300 os2 gs := ⟨st29, Nat.le_refl _, rep2, gb9, gv9, ks2, l2_⟩
    clear st9 st29
    -- the changes
    refine ⟨_, rfl, _, rfl, x1, x2, dr, df, ds, dl, dr2, df2, ds2, dl2, Z1, Z2, R, S, R2, S2, F, F2, L, L2, 300, 300, os, os2, fs, gs, rfl, sv9, sw9, fun pc xc itc H10 s10 npc epc igc etc ch lc => ?_⟩
    have lcs := ch.1
    -- they are those of the law
    refine ⟨_, rfl, _, rfl, _, rfl, o, b2, os, os2, fs, gs, rfl, SqL.of (s10 _ _ eo9), s10.seq hb9, og9.same s10, gb9.same s10, (sv9.same s10).v, (sw9.same s10).v, by omega, by omega, fun pl xl H11 s11 epl chl => ?_⟩
    have s911 := s10.trans s11
    have sv11 := sv9.same s911
    have sw11 := sw9.same s911
    have epc11 := s11 _ _ epc
    have ch11 := ch.tk (Tk.same s11)
    have tws : ChgTws K H11 (goesL os os2 ++ comesL fs (itc.zip gs)) (goesL os os2 ++ comesL fs (os2.zip gs)) := (show ChgTws K H11 (goesL os os2) (goesL os os2) from goes_tws _).app (comes_tws fs etc sw11.v)
    obtain ⟨es, a1, a2, a3⟩ := chgs_data tws ch11 chl
    have les : es.length ≤ 1000 := by have := DpAll.len a1; omega
    have G4 := Gd.lst les a3
    refine ⟨.ref pc, .ref pl, .list es, rfl, .lst (SqL.of epc11) a1, .lst (SqL.of epl) a2, G4.i, G4.d, ?_⟩
    rintro z12 H12 rfl s12
    refine ⟨_, rfl, iteF ?_⟩
    clear tws a1 a2 a3 les G4 chl epl
    have s912 := s911.trans s12
    have sv12 := sv11.same s12
    have sw12 := sw11.same s12
    have epc12 := s12 _ _ epc11
    have ch12 := ch11.tk (Tk.same s12)
    have hb12 := s912.seq hb9
    have eo12 := s912 _ _ eo9
    have rg12 := rg9.same s912
    have ov12 : ∀ t ∈ os, ItV K H12 t := fun u m => (ov9 u m).tk (Tk.same s912)
    clear sv11 sw11 epc11 ch11 ch epc sv9 sw9 s911 s10 s11 s12 rg9 hb9 eo9 og9 gb9 fv9 gv9 ov9 igc npc s912
    -- and make the second of the first
    obtain ⟨dx1, ob1⟩ := sv12.st.ob
    refine ⟨_, rfl, x1, dx1, _, rfl, ob1, flds_no _ _ _ _ (by decide +kernel), _, rfl, ?_⟩
    refine ⟨x1, pc, dr, df, ds, dl, Z1, R, S, F, L, 300, xc, _, os, rfl, sv12.st, Nat.le_refl _, rep, so, SqL.of epc12, ch12, by omega, fun x' dr' df' ds' dl' R' S' F' L' H13 s13 nx' st13 rep13 so13 => ?_⟩
    have sw13 := sw12.same s13
    have sv13 := sv12.same s13
    have ch13 := ch12.tk (Tk.same s13)
    have fl := fold_len (goesL os os2 ++ comesL fs (itc.zip gs)) os
    refine ⟨_, rfl, x', b2, dr', df', ds', dl', _, R', S', F', L', 300, os2, (goesL os os2 ++ comesL fs (itc.zip gs)).foldl stepC os, rfl, st13.tight rep13 (by omega), Nat.le_refl _, s13.seq hb12, sw13.g, ks2, l2_, rep13, fold_g sv13.g ch13, fold_srt ks so ch13, betw_twl ks so sv13.v ks2 so2 sw13.v etc, ?_⟩
    rintro z14 H14 rfl s14
    refine ⟨_, rfl, iteF ?_⟩
    have s1214 := s13.trans s14
    clear st13 rep13 so13 nx' s13 fl lcs lc
    have sv14 := sv12.same s1214
    have sw14 := sw12.same s1214
    have hb14 := s1214.seq hb12
    have eo14 := s1214 _ _ eo12
    have rg14 := rg12.same s1214
    have ov14 : ∀ t ∈ os, ItV K H14 t := fun u m => (ov12 u m).tk (Tk.same s1214)
    clear sv12 sw12 hb12 eo12 rg12 ov12 s1214 s14 sv13 sw13 ch13 ch12 epc12 ob1
    -- none between a State and itself
    refine ⟨_, rfl, _, rfl, x1, x1, dr, df, ds, dl, dr, df, ds, dl, Z1, Z1, R, S, R, S, F, F, L, L, 300, 300, os, os, fs, fs, rfl, sv14, sv14, fun pd xd itd H15 s15 npd epd igd etd chd ld => ?_⟩
    have xd0 : xd = [] := by
      have := chd.1
      rw [goes_self so, comes_self sv14.v.okF] at this
      exact List.length_eq_zero_iff.mp this
    subst xd0
    refine ⟨sz 0, fun e ne => ?_⟩
    have s16 := Same.new (o := .lst []) ne
    have ee := upd_same (H := H15) (a := e) (o := .lst [])
    generalize (upd H15 e (.lst [])) = H16 at *
    have G0 : Gd 1 (.list []) := Gd.lst (k := 0) (by decide) fun _ m => nomatch m
    refine ⟨.ref pd, .ref e, .list [], rfl, .lst (SqL.of (s16 _ _ epd)) .nil, .lst (SqL.of ee) .nil, G0.i, Nat.le_trans G0.d (by decide), ?_⟩
    rintro z17 H17 rfl s17
    refine ⟨_, rfl, ?_⟩
    refine iteF ?_
    have s1417 := (s15.trans s16).trans s17
    clear s15 s16 s17 ee epd chd npd ne igd G0
    have sv17 := sv14.same s1417
    refine ⟨_, rfl, _, rfl, x1, o, dr, df, ds, dl, Z1, R, S, F, L, 300, os, os, rfl, sv17.st, Nat.le_refl _, SqL.of (s1417 _ _ eo14), sv17.g, ks, by omega, rep, sv17.g, ks, Twl.self fun u m => (ov14 u m).tk (Tk.same s1417), ?_⟩
    rintro z18 H18 rfl s18
    refine ⟨_, rfl, ?_⟩
    refine iteF ?_
    have s1418 := s1417.trans s18
    have sw18 := sw14.same s1418
    refine ⟨_, rfl, _, rfl, x2, b2, dr2, df2, ds2, dl2, Z2, R2, S2, F2, L2, 300, os2, os2, rfl, sw18.st, Nat.le_refl _, s1418.seq hb14, sw18.g, ks2, l2_, rep2, sw18.g, ks2, Twl.of sw18.v rfl fun i t v e f => (sw18.v.2 i t v e f).1, ?_⟩
    rintro z19 H19 rfl s19
    refine ⟨_, rfl, ?_⟩
    refine iteF ?_
    have s1419 := s1418.trans s19
    have sv19 := sv14.same s1419
    have sw19 := sw14.same s1419
    have hb19 := s1419.seq hb14
    have eo19 := s1419 _ _ eo14
    have rg19 := rg14.same s1419
    have ov19 : ∀ t ∈ os, ItV K H19 t := fun u m => (ov14 u m).tk (Tk.same s1419)
    clear sv14 sw14 hb14 eo14 rg14 ov14 s1419 s1418 s1417 s18 s19 sv17 sw18
    -- the schemas
    refine ⟨_, rfl, o, os, rfl, SqL.of eo19, sv19.g, by omega, fun pA H20 s20 eA => ?_⟩
    refine ⟨_, rfl, b2, os2, rfl, s20.seq hb19, sw19.g.same s20, by omega, fun pB H21 s21 eB => ?_⟩
    have s1921 := s20.trans s21
    have sv21 := sv19.same s1921
    have sw21 := sw19.same s1921
    have fA := its_filter sv21.v
    have fB := its_filter sw21.v
    have gA : ItsG K H21 (schL os) := fun u m => sv21.g u (List.mem_filter.mp m).1
    have gB : ItsG K H21 (schL os2) := fun u m => sw21.g u (List.mem_filter.mp m).1
    have lA : ((schF fs).map fvFull).length ≤ 1000 := by
      rw [List.length_map, ← fA.1]
      exact Nat.le_trans (List.length_filter_le _ _) (by omega)
    have lB : ((schF gs).map fvFull).length ≤ 1000 := by
      rw [List.length_map, ← fB.1]
      exact Nat.le_trans (List.length_filter_le _ _) (by omega)
    have GA := Gd.lst lA fun d m => by
      obtain ⟨v, mv, rfl⟩ := List.mem_map.mp m
      exact full_gd (fA.okF v mv)
    have GB := Gd.lst lB fun d m => by
      obtain ⟨v, mv, rfl⟩ := List.mem_map.mp m
      exact full_gd (fB.okF v mv)
    refine ⟨.list ((schF fs).map fvFull), .list ((schF gs).map fvFull), .lst (SqL.of (s21 _ _ eA)) (full_dp gA fA), .lst (SqL.of eB) (full_dp gB fB), GA.shaped (by decide), GB.shaped (by decide), ?_⟩
    have symB := schB_symm sv21.v.okF sw21.v.okF
    clear fA fB gA gB lA lB GA GB eA eB
    obtain ⟨dx1, ob1⟩ := sv21.st.ob
    obtain ⟨dx2, ob2⟩ := sw21.st.ob
    refine ⟨_, rfl, x1, dx1, _, rfl, ob1, flds_no _ _ _ _ (by decide +kernel), _, rfl, ?_⟩
    refine ⟨x1, x2, dr, df, ds, dl, dr2, df2, ds2, dl2, Z1, Z2, R, S, R2, S2, F, F2, L, L2, 300, 300, os, os2, fs, gs, rfl, sv21, sw21, ?_⟩
    refine ⟨_, rfl, .bl (schB fs gs), .bl (schB fs gs), .bool (schB fs gs), rfl, .bl _, .bl _, (Gd.bool _).i, by simp [PyData.depth], ?_⟩
    rintro z22 H22 rfl s22
    refine ⟨_, rfl, ?_⟩
    refine iteF ?_
    refine ⟨_, rfl, x2, dx2, _, rfl, s22 _ _ ob2, flds_no _ _ _ _ (by decide +kernel), _, rfl, ?_⟩
    refine ⟨x2, x1, dr2, df2, ds2, dl2, dr, df, ds, dl, Z2, Z1, R2, S2, R, S, F2, F, L2, L, 300, 300, os2, os, gs, fs, rfl, sw21.same s22, sv21.same s22, ?_⟩
    rw [← symB]
    refine ⟨_, rfl, .bl (schB fs gs), .bl (schB fs gs), .bool (schB fs gs), rfl, .bl _, .bl _, (Gd.bool _).i, by simp [PyData.depth], ?_⟩
    rintro z23 H23 rfl s23
    refine ⟨_, rfl, ?_⟩
    refine iteF ?_
    have s1923 := (s1921.trans s22).trans s23
    have st23 := (sv19.same s1923).st
    have og23 := (sv19.same s1923).g
    have eo23 := s1923 _ _ eo19
    have rg23 := rg19.same s1923
    have ov23 : ∀ t ∈ os, ItV K H23 t := fun u m => (ov19 u m).tk (Tk.same s1923)
    clear sv21 sw21 sv19 sw19 hb19 eo19 rg19 ov19 s1923 s1921 s20 s21 s22 s23 ob1 ob2 rep2 ks2 l2_ so2 etc
    -- drawn changes
    refine ⟨_, rfl, _, rfl, p, d, o, os, rfl, rg23, eo23, op, og23, ov23, by omega, ?_⟩
    rintro x24 H24 ⟨qc, xs, cs, rfl, eqc, n1, n2, n3, ch, cv, lc⟩ gw24 rg24
    have t24 : Tk K H23 H24 := Rng.tk rg23 gw24
    have og24 := og23.tk t24
    have ov24 : ∀ t ∈ os, ItV K H24 t := fun u m => (ov23 u m).tk t24
    have eo24 := gw24 _ _ op eo23
    have st24 : StAt K C Z1 H24 x1 dr df ds dl R F S L 300 := by
      obtain ⟨_, _, h1, _⟩ := id rg23
      obtain ⟨_, _, h2, _⟩ := id rg24
      exact st23.gwp h1 zp gw24 h2
    clear st23 og23 eo23 rg23 ov23 gw24 t24
    refine ⟨_, rfl, qc, _, rfl, .inl (SqL.of eqc), fun pp npp => ?_⟩
    have s25 := Same.new (o := .lst xs) npp
    have epp := upd_same (H := H24) (a := pp) (o := .lst xs)
    generalize (upd H24 pp (.lst xs)) = H25 at *
    have st25 := st24.same s25
    have ch25 := ch.tk (Tk.same s25)
    have cv25 := cv.tk (Tk.same s25)
    have lxc := ch.1
    obtain ⟨dx1, ob1⟩ := st25.ob
    refine ⟨_, rfl, x1, dx1, _, rfl, ob1, flds_no _ _ _ _ (by decide +kernel), _, rfl, ?_⟩
    refine ⟨x1, pp, dr, df, ds, dl, Z1, R, S, F, L, 300, xs, cs, os, rfl, st25, Nat.le_refl _, rep, so, SqL.of epp, ch25, by omega, fun x' dr' df' ds' dl' R' S' F' L' H26 s26 nx' st26 rep26 so26 => ?_⟩
    have fl := fold_len cs os
    have sti26 := st26.tight rep26 (by omega)
    have own' : ∀ {b : Addr}, (b = x' ∨ b = dr' ∨ b = df' ∨ b = ds' ∨ b = dl' ∨ ∃ e ∈ F', e.2.1 = b) → H25 b = none := fun {b} m => by
      rcases st26.own m with e | e
      · rw [e]; exact nx'
      · exact e.1
    generalize (fun a => H25 a = none ∧ a ≠ x') = Z' at sti26
    have s2426 := s25.trans s26
    refine ⟨_, rfl, _, rfl, _, rfl, o, qc, os, xs, cs, rfl, SqL.of (s2426 _ _ eo24), og24.same s2426, SqL.of (s2426 _ _ eqc), ch.tk (Tk.same s2426), by omega, by omega, fun b3 H27 s27 hb27 gb27 => ?_⟩
    have s2427 := s2426.trans s27
    have ch27 := ch.tk (Tk.same s2427)
    have gg := fold_g (og24.same s2427) ch27
    have kk := fold_srt ks so ch27
    refine ⟨x', b3, dr', df', ds', dl', Z', R', S', F', L', 300, cs.foldl stepC os, cs.foldl stepC os, rfl, sti26.same s27, Nat.le_refl _, hb27, gb27, kk, by omega, rep26, gg, kk, Twl.self fun u m => ?_, ?_⟩
    · rcases fold_sub cs os m with z | z
      · exact (ov24 u z).tk (Tk.same s2427)
      · exact (cv u z).tk (Tk.same s2427)
    rintro z28 H28 rfl s28
    refine ⟨_, rfl, ?_⟩
    refine iteF ?_
    have s2528 := (s26.trans s27).trans s28
    have st28 := st25.same s2528
    have sti28 := (sti26.same s27).same s28
    -- what was passed stays
    obtain ⟨es, a1, a2, a3⟩ := chgs_data (ChgTws.self (cv25.tk (Tk.same s2528))) (ch25.tk (Tk.same s2528)) (ch25.tk (Tk.same s2528))
    have les : es.length ≤ 1000 := by have := DpAll.len a1; omega
    have G4 := Gd.lst les a3
    refine ⟨_, rfl, _, rfl, .list es, .list es, .lst (SqL.of (s2528 _ _ epp)) a1, .lst (SqL.of (s2528 _ _ (s25 _ _ eqc))) a1, G4.shaped (by decide), G4.shaped (by decide), _, rfl, ?_⟩
    rw [eqv_self _ G4.i]
    refine iteF ?_
    clear a1 a2 a3 les G4
    have eo28 := s2528 _ _ (s25 _ _ eo24)
    have og28 := (og24.same s25).same s2528
    have ov28 : ∀ t ∈ os, ItV K H28 t := fun u m => (ov24 u m).tk (Tk.same (s25.trans s2528))
    have had : ∀ {b : Addr} {u : HO}, H25 b = some u → ¬ (b = x' ∨ b = dr' ∨ b = df' ∨ b = ds' ∨ b = dl' ∨ ∃ e ∈ F', e.2.1 = b) := fun {b u} h m => by
      rw [own' m] at h
      cases h
    have nxd : x' ≠ df' := fun z => by
      obtain ⟨_, ob⟩ := sti28.ob
      have := sti28.f
      rw [← z, ob] at this
      cases this
    obtain ⟨dx9, ob9⟩ := sti28.ob
    clear st26 sti26 own' ch27 gg kk hb27 gb27 s27 s28 s2427 s2426 s26
    -- the lists of facts change
    refine ⟨df', .dK (kvF F'), sti28.f, True.intro, fun od => ?_⟩
    have frl : (upd H28 df' (.frz od (.dK (kvF F')))) df' = some (.frz od (.dK (kvF F'))) := upd_same
    have obl : (upd H28 df' (.frz od (.dK (kvF F')))) x' = some (.ins C dx9 (flds (.ref dr') (.ref df') (.ref ds') (.ref dl'))) := by rw [upd_ne nxd]; exact ob9
    have lkk : (kvF F').length = F'.length := kvG_len _ _
    refine ⟨_, rfl, x', C, dx9, _, _, rfl, obl, X.cl, X.nF, flds_f _ _ _ _, df', od, rfl, .inl ⟨kvF F', frl, for_it walk_keys (fun i σ H14 => ∃ y11 y12 : Option V, σ = [some (.ref a), some (.ref p), some (.ref l2), some (.ref o), some (.ref b2), some (.ref x1), some (.ref x2), some (.ref qc), some (.bl (schB fs gs)), some (.ref pp), some (.ref x'), y11, y12] ∧
        Kp (fun b => ∃ e ∈ F', e.2.1 = b) (upd H28 df' (.frz od (.dK (kvF F')))) H14 ∧ (∀ e ∈ F', ∃ us, H14 e.2.1 = some (.lst us) ∧ us.length ≤ 300 + i) ∧ (∀ b, H14 b = none → (upd H28 df' (.frz od (.dK (kvF F')))) b = none) ∧ Tk K (upd H28 df' (.frz od (.dK (kvF F')))) H14)
      ⟨none, none, rfl, Kp.refl _ _, fun e m => ?_, (fun b h => h), Tk.same (Same.refl _)⟩ (fun i σ H14 _ hP => ?_) (fun i y σ H14 H15 hi hP hY => ?_) (fun σ H14 hP => ?_)⟩⟩
    · obtain ⟨h1, h2, h3⟩ := sti28.ft e m
      refine ⟨_, by rw [upd_ne (fun z => by rw [z, sti28.f] at h1; cases h1)]; exact h1, by rw [rrefs_len]; omega⟩
    · obtain ⟨_, _, _, kp, _⟩ := hP
      exact kp _ _ (fun ⟨e, m, z⟩ => by have := (sti28.ft e m).1; rw [z, sti28.f] at this; cases this) frl
    · obtain ⟨y11, y12, rfl, kp, hu14, nn, tk⟩ := hP
      obtain ⟨rfl, k, v, ek, rfl⟩ := hY
      obtain ⟨e, ee, rfl, rfl⟩ := kvF_at ek
      have me := List.mem_of_getElem? ee
      have il : i < F'.length := (List.getElem?_eq_some_iff.mp ee).1
      have lF := sti28.ln.2.1
      have ec : valG F' e.1 = some (e.2.1, e.2.2) := valG_of sti28.fn me
      have ndf : ¬ ∃ e ∈ F', e.2.1 = df' := fun ⟨e, m, z⟩ => by have := (sti28.ft e m).1; rw [z, sti28.f] at this; cases this
      have ndx : ¬ ∃ e ∈ F', e.2.1 = x' := fun ⟨e, m, z⟩ => by have := (sti28.ft e m).1; rw [z, ob9] at this; cases this
      obtain ⟨us, eu, lu⟩ := hu14 e me
      refine ⟨_, rfl, x', C, dx9, _, _, rfl, kp _ _ ndx obl, X.cl, X.nF, flds_f _ _ _ _, _, rfl, df', _, rfl, dgetF (.inr ⟨od, kp _ _ ndf frl⟩) ec, ?_⟩
      refine ⟨_, rfl, .inl ⟨rfl, _, SqL.of eu⟩, sz 1, fun t nt => ?_⟩
      have s16 := Same.new (o := .tup [V.str "spoilt"]) nt
      have eu16 := s16 _ _ eu
      refine ⟨e.2.1, us, _, rfl, rfl, eu16, small (m := 1000) (by omega) (by decide), ?_⟩
      refine ⟨_, _, rfl, fun b u nb h => ?_, fun e2 m2 => ?_, fun b h => ?_, ?_⟩
      · rw [upd_ne (fun z => nb ⟨e, me, z.symm⟩)]
        exact s16 _ _ (kp b u nb h)
      · by_cases z : e2.2.1 = e.2.1
        · rw [z]
          exact ⟨_, upd_same, by rw [List.length_append]; show us.length + 1 ≤ 300 + (i + 1); omega⟩
        · obtain ⟨us2, eu2, lu2⟩ := hu14 e2 m2
          exact ⟨us2, by rw [upd_ne z]; exact s16 _ _ eu2, by omega⟩
      · by_cases z : b = e.2.1
        · rw [z, upd_same] at h; cases h
        · rw [upd_ne z] at h
          exact nn b (s16.free h)
      · exact (tk.trans (Tk.same s16)).trans (Tk.put eu16)
    obtain ⟨y11, y12, rfl, kp, hu14, nn, tk⟩ := hP
    have ndf : ¬ ∃ e ∈ F', e.2.1 = df' := fun ⟨e, m, z⟩ => by have := (sti28.ft e m).1; rw [z, sti28.f] at this; cases this
    refine ⟨kp _ _ ndf frl, ?_⟩
    have kp15 : Kp (fun b => ∃ e ∈ F', e.2.1 = b) H28 (upd H14 df' (.dK (kvF F'))) := fun b u nb h => by
      by_cases z : b = df'
      · rw [z] at h ⊢
        rw [sti28.f] at h
        rw [upd_same]
        exact h
      · rw [upd_ne z]
        exact kp b u nb (by rw [upd_ne z]; exact h)
    have nn15 : ∀ b, (upd H14 df' (.dK (kvF F'))) b = none → H28 b = none := fun b h => by
      by_cases z : b = df'
      · rw [z, upd_same] at h; cases h
      · rw [upd_ne z] at h
        have := nn b h
        rw [upd_ne z] at this
        exact this
    have tk15 : Tk K H28 (upd H14 df' (.dK (kvF F'))) := by
      refine ⟨fun b xs h => ?_, fun b xs ⟨o, h, dd⟩ => ⟨o, kp15 _ _ (fun ⟨e, m, z⟩ => by have := (sti28.ft e m).1; rw [z, h] at this; cases this) h, dd⟩⟩
      rcases h with (h | ⟨u, h⟩) | h
      · exact .inl (.inl (kp15 _ _ (fun ⟨e, m, z⟩ => by have := (sti28.ft e m).1; rw [z, h] at this; cases this) h))
      · exact .inl (.inr ⟨u, kp15 _ _ (fun ⟨e, m, z⟩ => by have := (sti28.ft e m).1; rw [z, h] at this; cases this) h⟩)
      · exact .inr h
    clear kp nn tk hu14 frl obl
    generalize (upd H14 df' (.dK (kvF F'))) = H15 at *
    have hadF : ∀ {b : Addr} {u : HO}, H25 b = some u → ¬ ∃ e ∈ F', e.2.1 = b := fun {b u} h m => had h (.inr (.inr (.inr (.inr (.inr m)))))
    have st15 := st28.fr kp15 tk15 (fun b m z => by
      rcases m with e | e | e | e | e | ⟨e, me, ee⟩
      · exact hadF ob1 (by rw [← e]; exact z)
      · exact hadF st25.r (by rw [← e]; exact z)
      · exact hadF st25.f (by rw [← e]; exact z)
      · exact hadF st25.s (by rw [← e]; exact z)
      · exact hadF st25.l (by rw [← e]; exact z)
      · exact hadF (st25.ft e me).1 (by rw [ee]; exact z)) nn15
    have eo15 := kp15 _ _ (hadF (s25 _ _ eo24)) eo28
    have og15 := og28.tk tk15
    refine ⟨_, rfl, _, rfl, x1, o, dr, df, ds, dl, Z1, R, S, F, L, 300, os, os, rfl, st15, Nat.le_refl _, SqL.of eo15, og15, ks, by omega, rep, og15, ks, Twl.self fun u m => (ov28 u m).tk tk15, ?_⟩
    rintro z29 H29 rfl s29
    exact q _
end
end K1
namespace K1
open PySem PySem.Spec PyProof.Rows L2 Ow
theorem kn_of {P : Program} {w : World} {K : PySem.W.Frag} {mg : Str → Option Value} {base : Heap} {k : Nat} {x qual : Str} {st : Stmt} {f : Addr} {fd : FuncData} {ps : List Str} {sp : Sp}
    (F : Fun K x qual st f fd) (g : mg x = some (.ref f)) (b : Binds K fd ps []) (ok : FnOk P w K mg base CX0 k f fd ps sp) : Kn P w K mg base k x ps sp := ⟨⟨f, fd, ok, g, F.kp, b⟩⟩
theorem all_mk {l : PySem.W.OpenLaw} {w : World} {K : PySem.W.Frag} {h : Heap} {mg : Str → Option Value} {fa : Addr} (X : K.In h) (G : h.Ns mainGlobals mg) (hfa : mg "law" = some (.ref fa))
    {f1 : Addr} {od1 an1 : Option Addr} {sl1 : Array (Option Value)} {oc1 kV1 dc1 pm1 cd1 ct1 : Value}
    {f2 : Addr} {od2 an2 : Option Addr} {sl2 : Array (Option Value)} {oc2 kV2 dc2 pm2 cd2 ct2 : Value}
    {f3 : Addr} {od3 an3 : Option Addr} {sl3 : Array (Option Value)} {oc3 kV3 dc3 pm3 cd3 ct3 : Value}
    {f4 : Addr} {od4 an4 : Option Addr} {sl4 : Array (Option Value)} {oc4 kV4 dc4 pm4 cd4 ct4 : Value}
    {f5 : Addr} {od5 an5 : Option Addr} {sl5 : Array (Option Value)} {oc5 kV5 dc5 pm5 cd5 ct5 : Value}
    {f6 : Addr} {od6 an6 : Option Addr} {sl6 : Array (Option Value)} {oc6 kV6 dc6 pm6 cd6 ct6 : Value}
    {f7 : Addr} {od7 an7 : Option Addr} {sl7 : Array (Option Value)} {oc7 kV7 dc7 pm7 cd7 ct7 : Value}
    {f8 : Addr} {od8 an8 : Option Addr} {sl8 : Array (Option Value)} {oc8 kV8 dc8 pm8 cd8 ct8 : Value}
    {f9 : Addr} {od9 an9 : Option Addr} {sl9 : Array (Option Value)} {oc9 kV9 dc9 pm9 cd9 ct9 : Value}
    {f10 : Addr} {od10 an10 : Option Addr} {sl10 : Array (Option Value)} {oc10 kV10 dc10 pm10 cd10 ct10 : Value}
    {f11 : Addr} {od11 an11 : Option Addr} {sl11 : Array (Option Value)} {oc11 kV11 dc11 pm11 cd11 ct11 : Value}
    {f12 : Addr} {od12 an12 : Option Addr} {sl12 : Array (Option Value)} {oc12 kV12 dc12 pm12 cd12 ct12 : Value}
    {f13 : Addr} {od13 an13 : Option Addr} {sl13 : Array (Option Value)} {oc13 kV13 dc13 pm13 cd13 ct13 : Value}
    {f14 : Addr} {od14 an14 : Option Addr} {sl14 : Array (Option Value)} {oc14 kV14 dc14 pm14 cd14 ct14 : Value}
    {f15 : Addr} {od15 an15 : Option Addr} {sl15 : Array (Option Value)} {oc15 kV15 dc15 pm15 cd15 ct15 : Value}
    {f16 : Addr} {od16 an16 : Option Addr} {sl16 : Array (Option Value)} {oc16 kV16 dc16 pm16 cd16 ct16 : Value}
    {f17 : Addr} {od17 an17 : Option Addr} {sl17 : Array (Option Value)} {oc17 kV17 dc17 pm17 cd17 ct17 : Value}
    {f18 : Addr} {od18 an18 : Option Addr} {sl18 : Array (Option Value)} {oc18 kV18 dc18 pm18 cd18 ct18 : Value}
    {f19 : Addr} {od19 an19 : Option Addr} {sl19 : Array (Option Value)} {oc19 kV19 dc19 pm19 cd19 ct19 : Value}
    {f20 : Addr} {od20 an20 : Option Addr} {sl20 : Array (Option Value)} {oc20 kV20 dc20 pm20 cd20 ct20 : Value}
    {f21 : Addr} {od21 an21 : Option Addr} {sl21 : Array (Option Value)} {oc21 kV21 dc21 pm21 cd21 ct21 : Value}
    {f22 : Addr} {od22 an22 : Option Addr} {sl22 : Array (Option Value)} {oc22 kV22 dc22 pm22 cd22 ct22 : Value}
    {f23 : Addr} {od23 an23 : Option Addr} {sl23 : Array (Option Value)} {oc23 kV23 dc23 pm23 cd23 ct23 : Value}
    {f24 : Addr} {od24 an24 : Option Addr} {sl24 : Array (Option Value)} {oc24 kV24 dc24 pm24 cd24 ct24 : Value}
    {f25 : Addr} {od25 an25 : Option Addr} {sl25 : Array (Option Value)} {oc25 kV25 dc25 pm25 cd25 ct25 : Value}
    {f26 : Addr} {od26 an26 : Option Addr} {sl26 : Array (Option Value)} {oc26 kV26 dc26 pm26 cd26 ct26 : Value}
    {f27 : Addr} {od27 an27 : Option Addr} {sl27 : Array (Option Value)} {oc27 kV27 dc27 pm27 cd27 ct27 : Value}
    {f28 : Addr} {od28 an28 : Option Addr} {sl28 : Array (Option Value)} {oc28 kV28 dc28 pm28 cd28 ct28 : Value}
    {f29 : Addr} {od29 an29 : Option Addr} {sl29 : Array (Option Value)} {oc29 kV29 dc29 pm29 cd29 ct29 : Value}
    {f30 : Addr} {od30 an30 : Option Addr} {sl30 : Array (Option Value)} {oc30 kV30 dc30 pm30 cd30 ct30 : Value}
    {f31 : Addr} {od31 an31 : Option Addr} {sl31 : Array (Option Value)} {oc31 kV31 dc31 pm31 cd31 ct31 : Value}
    {f32 : Addr} {od32 an32 : Option Addr} {sl32 : Array (Option Value)} {oc32 kV32 dc32 pm32 cd32 ct32 : Value}
    {f33 : Addr} {od33 an33 : Option Addr} {sl33 : Array (Option Value)} {oc33 kV33 dc33 pm33 cd33 ct33 : Value}
    {f34 : Addr} {od34 an34 : Option Addr} {sl34 : Array (Option Value)} {oc34 kV34 dc34 pm34 cd34 ct34 : Value}
    {f35 : Addr} {od35 an35 : Option Addr} {sl35 : Array (Option Value)} {oc35 kV35 dc35 pm35 cd35 ct35 : Value}
    (a1 : PySem.W.nsIn K mainGlobals "value_key" = some (some (.ref f1)))
    (l1 : K.lookup f1 = some ⟨oc1, od1, .func (PySem.W.fnOf "value_key" "value_key" (defArgs svalue_key) (defBody svalue_key) (defScope svalue_key) .none kV1 dc1 pm1 an1 cd1 ct1), sl1⟩) (c1 : PySem.W.codeIn K cd1 "value_key" = true) (k1 : PySem.W.keepIn K (.ref f1) = true)
    (a2 : PySem.W.nsIn K mainGlobals "row_key" = some (some (.ref f2)))
    (l2 : K.lookup f2 = some ⟨oc2, od2, .func (PySem.W.fnOf "row_key" "row_key" (defArgs srow_key) (defBody srow_key) (defScope srow_key) .none kV2 dc2 pm2 an2 cd2 ct2), sl2⟩) (c2 : PySem.W.codeIn K cd2 "row_key" = true) (k2 : PySem.W.keepIn K (.ref f2) = true)
    (a3 : PySem.W.nsIn K mainGlobals "place_of" = some (some (.ref f3)))
    (l3 : K.lookup f3 = some ⟨oc3, od3, .func (PySem.W.fnOf "place_of" "place_of" (defArgs splace_of) (defBody splace_of) (defScope splace_of) .none kV3 dc3 pm3 an3 cd3 ct3), sl3⟩) (c3 : PySem.W.codeIn K cd3 "place_of" = true) (k3 : PySem.W.keepIn K (.ref f3) = true)
    (a4 : PySem.W.nsIn K mainGlobals "put_fact" = some (some (.ref f4)))
    (l4 : K.lookup f4 = some ⟨oc4, od4, .func (PySem.W.fnOf "put_fact" "put_fact" (defArgs sput_fact) (defBody sput_fact) (defScope sput_fact) .none kV4 dc4 pm4 an4 cd4 ct4), sl4⟩) (c4 : PySem.W.codeIn K cd4 "put_fact" = true) (k4 : PySem.W.keepIn K (.ref f4) = true)
    (a5 : PySem.W.nsIn K mainGlobals "put_item" = some (some (.ref f5)))
    (l5 : K.lookup f5 = some ⟨oc5, od5, .func (PySem.W.fnOf "put_item" "put_item" (defArgs sput_item) (defBody sput_item) (defScope sput_item) .none kV5 dc5 pm5 an5 cd5 ct5), sl5⟩) (c5 : PySem.W.codeIn K cd5 "put_item" = true) (k5 : PySem.W.keepIn K (.ref f5) = true)
    (a6 : PySem.W.nsIn K mainGlobals "key_of" = some (some (.ref f6)))
    (l6 : K.lookup f6 = some ⟨oc6, od6, .func (PySem.W.fnOf "key_of" "key_of" (defArgs skey_of) (defBody skey_of) (defScope skey_of) .none kV6 dc6 pm6 an6 cd6 ct6), sl6⟩) (c6 : PySem.W.codeIn K cd6 "key_of" = true) (k6 : PySem.W.keepIn K (.ref f6) = true)
    (a7 : PySem.W.nsIn K mainGlobals "remove_fact" = some (some (.ref f7)))
    (l7 : K.lookup f7 = some ⟨oc7, od7, .func (PySem.W.fnOf "remove_fact" "remove_fact" (defArgs sremove_fact) (defBody sremove_fact) (defScope sremove_fact) .none kV7 dc7 pm7 an7 cd7 ct7), sl7⟩) (c7 : PySem.W.codeIn K cd7 "remove_fact" = true) (k7 : PySem.W.keepIn K (.ref f7) = true)
    (a8 : PySem.W.nsIn K mainGlobals "forget_facts" = some (some (.ref f8)))
    (l8 : K.lookup f8 = some ⟨oc8, od8, .func (PySem.W.fnOf "forget_facts" "forget_facts" (defArgs sforget_facts) (defBody sforget_facts) (defScope sforget_facts) .none kV8 dc8 pm8 an8 cd8 ct8), sl8⟩) (c8 : PySem.W.codeIn K cd8 "forget_facts" = true) (k8 : PySem.W.keepIn K (.ref f8) = true)
    (a9 : PySem.W.nsIn K mainGlobals "named_items" = some (some (.ref f9)))
    (l9 : K.lookup f9 = some ⟨oc9, od9, .func (PySem.W.fnOf "named_items" "named_items" (defArgs snamed_items) (defBody snamed_items) (defScope snamed_items) .none kV9 dc9 pm9 an9 cd9 ct9), sl9⟩) (c9 : PySem.W.codeIn K cd9 "named_items" = true) (k9 : PySem.W.keepIn K (.ref f9) = true)
    (a10 : PySem.W.nsIn K mainGlobals "remove_key" = some (some (.ref f10)))
    (l10 : K.lookup f10 = some ⟨oc10, od10, .func (PySem.W.fnOf "remove_key" "remove_key" (defArgs sremove_key) (defBody sremove_key) (defScope sremove_key) .none kV10 dc10 pm10 an10 cd10 ct10), sl10⟩) (c10 : PySem.W.codeIn K cd10 "remove_key" = true) (k10 : PySem.W.keepIn K (.ref f10) = true)
    (a11 : PySem.W.nsIn K mainGlobals "between" = some (some (.ref f11)))
    (l11 : K.lookup f11 = some ⟨oc11, od11, .func (PySem.W.fnOf "between" "between" (defArgs sbetween) (defBody sbetween) (defScope sbetween) .none kV11 dc11 pm11 an11 cd11 ct11), sl11⟩) (c11 : PySem.W.codeIn K cd11 "between" = true) (k11 : PySem.W.keepIn K (.ref f11) = true)
    (a12 : PySem.W.nsIn K mainGlobals "_law_mix" = some (some (.ref f12)))
    (l12 : K.lookup f12 = some ⟨oc12, od12, .func (PySem.W.fnOf "_law_mix" "_law_mix" (defArgs s_law_mix) (defBody s_law_mix) (defScope s_law_mix) .none kV12 dc12 pm12 an12 cd12 ct12), sl12⟩) (c12 : PySem.W.codeIn K cd12 "_law_mix" = true) (k12 : PySem.W.keepIn K (.ref f12) = true)
    (a13 : PySem.W.nsIn K mainGlobals "_law_draws" = some (some (.ref f13)))
    (l13 : K.lookup f13 = some ⟨oc13, od13, .func (PySem.W.fnOf "_law_draws" "_law_draws" (defArgs s_law_draws) (defBody s_law_draws) (defScope s_law_draws) .none kV13 dc13 pm13 an13 cd13 ct13), sl13⟩) (c13 : PySem.W.codeIn K cd13 "_law_draws" = true) (k13 : PySem.W.keepIn K (.ref f13) = true)
    (a14 : PySem.W.nsIn K mainGlobals "_law_at" = some (some (.ref f14)))
    (l14 : K.lookup f14 = some ⟨oc14, od14, .func (PySem.W.fnOf "_law_at" "_law_at" (defArgs s_law_at) (defBody s_law_at) (defScope s_law_at) .none kV14 dc14 pm14 an14 cd14 ct14), sl14⟩) (c14 : PySem.W.codeIn K cd14 "_law_at" = true) (k14 : PySem.W.keepIn K (.ref f14) = true)
    (a15 : PySem.W.nsIn K mainGlobals "_law_is_integer" = some (some (.ref f15)))
    (l15 : K.lookup f15 = some ⟨oc15, od15, .func (PySem.W.fnOf "_law_is_integer" "_law_is_integer" (defArgs s_law_is_integer) (defBody s_law_is_integer) (defScope s_law_is_integer) .none kV15 dc15 pm15 an15 cd15 ct15), sl15⟩) (c15 : PySem.W.codeIn K cd15 "_law_is_integer" = true) (k15 : PySem.W.keepIn K (.ref f15) = true)
    (a16 : PySem.W.nsIn K mainGlobals "_law_same" = some (some (.ref f16)))
    (l16 : K.lookup f16 = some ⟨oc16, od16, .func (PySem.W.fnOf "_law_same" "_law_same" (defArgs s_law_same) (defBody s_law_same) (defScope s_law_same) .none kV16 dc16 pm16 an16 cd16 ct16), sl16⟩) (c16 : PySem.W.codeIn K cd16 "_law_same" = true) (k16 : PySem.W.keepIn K (.ref f16) = true)
    (a17 : PySem.W.nsIn K mainGlobals "_law_is_dict" = some (some (.ref f17)))
    (l17 : K.lookup f17 = some ⟨oc17, od17, .func (PySem.W.fnOf "_law_is_dict" "_law_is_dict" (defArgs s_law_is_dict) (defBody s_law_is_dict) (defScope s_law_is_dict) .none kV17 dc17 pm17 an17 cd17 ct17), sl17⟩) (c17 : PySem.W.codeIn K cd17 "_law_is_dict" = true) (k17 : PySem.W.keepIn K (.ref f17) = true)
    (a18 : PySem.W.nsIn K mainGlobals "_law_next" = some (some (.ref f18)))
    (l18 : K.lookup f18 = some ⟨oc18, od18, .func (PySem.W.fnOf "_law_next" "_law_next" (defArgs s_law_next) (defBody s_law_next) (defScope s_law_next) .none kV18 dc18 pm18 an18 cd18 ct18), sl18⟩) (c18 : PySem.W.codeIn K cd18 "_law_next" = true) (k18 : PySem.W.keepIn K (.ref f18) = true)
    (a19 : PySem.W.nsIn K mainGlobals "_law_text" = some (some (.ref f19)))
    (l19 : K.lookup f19 = some ⟨oc19, od19, .func (PySem.W.fnOf "_law_text" "_law_text" (defArgs s_law_text) (defBody s_law_text) (defScope s_law_text) .none kV19 dc19 pm19 an19 cd19 ct19), sl19⟩) (c19 : PySem.W.codeIn K cd19 "_law_text" = true) (k19 : PySem.W.keepIn K (.ref f19) = true)
    (a20 : PySem.W.nsIn K mainGlobals "_law_value" = some (some (.ref f20)))
    (l20 : K.lookup f20 = some ⟨oc20, od20, .func (PySem.W.fnOf "_law_value" "_law_value" (defArgs s_law_value) (defBody s_law_value) (defScope s_law_value) .none kV20 dc20 pm20 an20 cd20 ct20), sl20⟩) (c20 : PySem.W.codeIn K cd20 "_law_value" = true) (k20 : PySem.W.keepIn K (.ref f20) = true)
    (a21 : PySem.W.nsIn K mainGlobals "_law_row" = some (some (.ref f21)))
    (l21 : K.lookup f21 = some ⟨oc21, od21, .func (PySem.W.fnOf "_law_row" "_law_row" (defArgs s_law_row) (defBody s_law_row) (defScope s_law_row) .none kV21 dc21 pm21 an21 cd21 ct21), sl21⟩) (c21 : PySem.W.codeIn K cd21 "_law_row" = true) (k21 : PySem.W.keepIn K (.ref f21) = true)
    (a22 : PySem.W.nsIn K mainGlobals "_law_name" = some (some (.ref f22)))
    (l22 : K.lookup f22 = some ⟨oc22, od22, .func (PySem.W.fnOf "_law_name" "_law_name" (defArgs s_law_name) (defBody s_law_name) (defScope s_law_name) .none kV22 dc22 pm22 an22 cd22 ct22), sl22⟩) (c22 : PySem.W.codeIn K cd22 "_law_name" = true) (k22 : PySem.W.keepIn K (.ref f22) = true)
    (a23 : PySem.W.nsIn K mainGlobals "_law_first" = some (some (.ref f23)))
    (l23 : K.lookup f23 = some ⟨oc23, od23, .func (PySem.W.fnOf "_law_first" "_law_first" (defArgs s_law_first) (defBody s_law_first) (defScope s_law_first) .none kV23 dc23 pm23 an23 cd23 ct23), sl23⟩) (c23 : PySem.W.codeIn K cd23 "_law_first" = true) (k23 : PySem.W.keepIn K (.ref f23) = true)
    (a24 : PySem.W.nsIn K mainGlobals "_law_order" = some (some (.ref f24)))
    (l24 : K.lookup f24 = some ⟨oc24, od24, .func (PySem.W.fnOf "_law_order" "_law_order" (defArgs s_law_order) (defBody s_law_order) (defScope s_law_order) .none kV24 dc24 pm24 an24 cd24 ct24), sl24⟩) (c24 : PySem.W.codeIn K cd24 "_law_order" = true) (k24 : PySem.W.keepIn K (.ref f24) = true)
    (a25 : PySem.W.nsIn K mainGlobals "_law_key" = some (some (.ref f25)))
    (l25 : K.lookup f25 = some ⟨oc25, od25, .func (PySem.W.fnOf "_law_key" "_law_key" (defArgs s_law_key) (defBody s_law_key) (defScope s_law_key) .none kV25 dc25 pm25 an25 cd25 ct25), sl25⟩) (c25 : PySem.W.codeIn K cd25 "_law_key" = true) (k25 : PySem.W.keepIn K (.ref f25) = true)
    (a26 : PySem.W.nsIn K mainGlobals "_law_key_order" = some (some (.ref f26)))
    (l26 : K.lookup f26 = some ⟨oc26, od26, .func (PySem.W.fnOf "_law_key_order" "_law_key_order" (defArgs s_law_key_order) (defBody s_law_key_order) (defScope s_law_key_order) .none kV26 dc26 pm26 an26 cd26 ct26), sl26⟩) (c26 : PySem.W.codeIn K cd26 "_law_key_order" = true) (k26 : PySem.W.keepIn K (.ref f26) = true)
    (a27 : PySem.W.nsIn K mainGlobals "_law_item" = some (some (.ref f27)))
    (l27 : K.lookup f27 = some ⟨oc27, od27, .func (PySem.W.fnOf "_law_item" "_law_item" (defArgs s_law_item) (defBody s_law_item) (defScope s_law_item) .none kV27 dc27 pm27 an27 cd27 ct27), sl27⟩) (c27 : PySem.W.codeIn K cd27 "_law_item" = true) (k27 : PySem.W.keepIn K (.ref f27) = true)
    (a28 : PySem.W.nsIn K mainGlobals "_law_placed" = some (some (.ref f28)))
    (l28 : K.lookup f28 = some ⟨oc28, od28, .func (PySem.W.fnOf "_law_placed" "_law_placed" (defArgs s_law_placed) (defBody s_law_placed) (defScope s_law_placed) .none kV28 dc28 pm28 an28 cd28 ct28), sl28⟩) (c28 : PySem.W.codeIn K cd28 "_law_placed" = true) (k28 : PySem.W.keepIn K (.ref f28) = true)
    (a29 : PySem.W.nsIn K mainGlobals "_law_some_items" = some (some (.ref f29)))
    (l29 : K.lookup f29 = some ⟨oc29, od29, .func (PySem.W.fnOf "_law_some_items" "_law_some_items" (defArgs s_law_some_items) (defBody s_law_some_items) (defScope s_law_some_items) .none kV29 dc29 pm29 an29 cd29 ct29), sl29⟩) (c29 : PySem.W.codeIn K cd29 "_law_some_items" = true) (k29 : PySem.W.keepIn K (.ref f29) = true)
    (a30 : PySem.W.nsIn K mainGlobals "_law_is_state" = some (some (.ref f30)))
    (l30 : K.lookup f30 = some ⟨oc30, od30, .func (PySem.W.fnOf "_law_is_state" "_law_is_state" (defArgs s_law_is_state) (defBody s_law_is_state) (defScope s_law_is_state) .none kV30 dc30 pm30 an30 cd30 ct30), sl30⟩) (c30 : PySem.W.codeIn K cd30 "_law_is_state" = true) (k30 : PySem.W.keepIn K (.ref f30) = true)
    (a31 : PySem.W.nsIn K mainGlobals "_law_changed" = some (some (.ref f31)))
    (l31 : K.lookup f31 = some ⟨oc31, od31, .func (PySem.W.fnOf "_law_changed" "_law_changed" (defArgs s_law_changed) (defBody s_law_changed) (defScope s_law_changed) .none kV31 dc31 pm31 an31 cd31 ct31), sl31⟩) (c31 : PySem.W.codeIn K cd31 "_law_changed" = true) (k31 : PySem.W.keepIn K (.ref f31) = true)
    (a32 : PySem.W.nsIn K mainGlobals "_law_drawn_changes" = some (some (.ref f32)))
    (l32 : K.lookup f32 = some ⟨oc32, od32, .func (PySem.W.fnOf "_law_drawn_changes" "_law_drawn_changes" (defArgs s_law_drawn_changes) (defBody s_law_drawn_changes) (defScope s_law_drawn_changes) .none kV32 dc32 pm32 an32 cd32 ct32), sl32⟩) (c32 : PySem.W.codeIn K cd32 "_law_drawn_changes" = true) (k32 : PySem.W.keepIn K (.ref f32) = true)
    (a33 : PySem.W.nsIn K mainGlobals "_law_between" = some (some (.ref f33)))
    (l33 : K.lookup f33 = some ⟨oc33, od33, .func (PySem.W.fnOf "_law_between" "_law_between" (defArgs s_law_between) (defBody s_law_between) (defScope s_law_between) .none kV33 dc33 pm33 an33 cd33 ct33), sl33⟩) (c33 : PySem.W.codeIn K cd33 "_law_between" = true) (k33 : PySem.W.keepIn K (.ref f33) = true)
    (a34 : PySem.W.nsIn K mainGlobals "_law_schema" = some (some (.ref f34)))
    (l34 : K.lookup f34 = some ⟨oc34, od34, .func (PySem.W.fnOf "_law_schema" "_law_schema" (defArgs s_law_schema) (defBody s_law_schema) (defScope s_law_schema) .none kV34 dc34 pm34 an34 cd34 ct34), sl34⟩) (c34 : PySem.W.codeIn K cd34 "_law_schema" = true) (k34 : PySem.W.keepIn K (.ref f34) = true)
    (a35 : PySem.W.nsIn K mainGlobals "law" = some (some (.ref f35)))
    (l35 : K.lookup f35 = some ⟨oc35, od35, .func (PySem.W.fnOf "law" "law" (defArgs slaw) (defBody slaw) (defScope slaw) .none kV35 dc35 pm35 an35 cd35 ct35), sl35⟩) (c35 : PySem.W.codeIn K cd35 "law" = true) (k35 : PySem.W.keepIn K (.ref f35) = true)
    {sA : Addr} {w0 w1 w2 w3 : Tok} {sn : Nat} {ss : Array (Option Value)} (aS : PySem.W.nsIn K mainGlobals "SORTS" = some (some (.ref sA)))
    (lS : K.lookup sA = some ⟨.type "tuple", none, .seq #[.str "relation" w0, .str "fact" w1, .str "structure" w2, .str "layout" w3] sn, ss⟩)
    {C fI TT A0 : Addr} {odI anI odT : Option Addr} {slI slT slA : Array (Option Value)} {ocI kVI dcI pmI cdI ctI ocT : Value} {nT nA : Nat}
    (aC : PySem.W.nsIn K mainGlobals "State" = some (some (.ref C)))
    (aI : PySem.W.findIn K (.ref C) "__init__" = some (some (.ref fI))) (iI : PySem.W.isFn K (.ref fI) = true)
    (lI : K.lookup fI = some ⟨ocI, odI, .func (PySem.W.fnOf "__init__" "State.__init__" (defArgs sInit) (defBody sInit) (defScope sInit) (.ref TT) kVI dcI pmI anI cdI ctI), slI⟩) (cI : PySem.W.codeIn K cdI "State.__init__" = true) (kI : PySem.W.keepIn K (.ref fI) = true)
    (lT : K.lookup TT = some ⟨ocT, odT, .seq #[.ref A0] nT, slT⟩) (lA : K.lookup A0 = some ⟨.type "tuple", none, .seq #[] nA, slA⟩)
    (pg : PySem.W.plainGet K C Str.empty = true) (hd : PySem.W.hasDictIn K C = true) (po : PySem.W.plainOver K C = true) (sa : PySem.W.findIn K (.ref C) "__setattr__" = some (some (.builtin "object.__setattr__"))) (mk : PySem.W.makesIn K C = true) (kc : PySem.W.keepIn K (.ref C) = true)
    (nR : PySem.W.findIn K (.ref C) "relations" = some none) (nF : PySem.W.findIn K (.ref C) "facts" = some none) (nS : PySem.W.findIn K (.ref C) "structures" = some none) (nL : PySem.W.findIn K (.ref C) "layouts" = some none)
    {fMA : Addr} {odMA anMA : Option Addr} {slMA : Array (Option Value)} {ocMA kVMA dcMA pmMA cdMA ctMA : Value}
    (aMA : PySem.W.findIn K (.ref C) "all_items" = some (some (.ref fMA))) (iMA : PySem.W.isFn K (.ref fMA) = true)
    (lMA : K.lookup fMA = some ⟨ocMA, odMA, .func (PySem.W.fnOf "all_items" "State.all_items" (defArgs sAll) (defBody sAll) (defScope sAll) .none kVMA dcMA pmMA anMA cdMA ctMA), slMA⟩) (cMA : PySem.W.codeIn K cdMA "State.all_items" = true) (kMA : PySem.W.keepIn K (.ref fMA) = true)
    {fMH : Addr} {odMH anMH : Option Addr} {slMH : Array (Option Value)} {ocMH kVMH dcMH pmMH cdMH ctMH : Value}
    (aMH : PySem.W.findIn K (.ref C) "has" = some (some (.ref fMH))) (iMH : PySem.W.isFn K (.ref fMH) = true)
    (lMH : K.lookup fMH = some ⟨ocMH, odMH, .func (PySem.W.fnOf "has" "State.has" (defArgs sHas) (defBody sHas) (defScope sHas) .none kVMH dcMH pmMH anMH cdMH ctMH), slMH⟩) (cMH : PySem.W.codeIn K cdMH "State.has" = true) (kMH : PySem.W.keepIn K (.ref fMH) = true)
    {fMC : Addr} {odMC anMC : Option Addr} {slMC : Array (Option Value)} {ocMC kVMC dcMC pmMC cdMC ctMC : Value}
    (aMC : PySem.W.findIn K (.ref C) "copy" = some (some (.ref fMC))) (iMC : PySem.W.isFn K (.ref fMC) = true)
    (lMC : K.lookup fMC = some ⟨ocMC, odMC, .func (PySem.W.fnOf "copy" "State.copy" (defArgs sCopy) (defBody sCopy) (defScope sCopy) .none kVMC dcMC pmMC anMC cdMC ctMC), slMC⟩) (cMC : PySem.W.codeIn K cdMC "State.copy" = true) (kMC : PySem.W.keepIn K (.ref fMC) = true)
    {fMX : Addr} {odMX anMX : Option Addr} {slMX : Array (Option Value)} {ocMX kVMX dcMX pmMX cdMX ctMX : Value}
    (aMX : PySem.W.findIn K (.ref C) "change" = some (some (.ref fMX))) (iMX : PySem.W.isFn K (.ref fMX) = true)
    (lMX : K.lookup fMX = some ⟨ocMX, odMX, .func (PySem.W.fnOf "change" "State.change" (defArgs sState_change) (defBody sState_change) (defScope sState_change) .none kVMX dcMX pmMX anMX cdMX ctMX), slMX⟩) (cMX : PySem.W.codeIn K cdMX "State.change" = true) (kMX : PySem.W.keepIn K (.ref fMX) = true)
    {fMS : Addr} {odMS anMS : Option Addr} {slMS : Array (Option Value)} {ocMS kVMS dcMS pmMS cdMS ctMS : Value}
    (aMS : PySem.W.findIn K (.ref C) "same_schema" = some (some (.ref fMS))) (iMS : PySem.W.isFn K (.ref fMS) = true)
    (lMS : K.lookup fMS = some ⟨ocMS, odMS, .func (PySem.W.fnOf "same_schema" "State.same_schema" (defArgs sState_same_schema) (defBody sState_same_schema) (defScope sState_same_schema) .none kVMS dcMS pmMS anMS cdMS ctMS), slMS⟩) (cMS : PySem.W.codeIn K cdMS "State.same_schema" = true) (kMS : PySem.W.keepIn K (.ref fMS) = true)
    (z1 : PySem.W.nsIn K mainGlobals "range" = some none) (z2 : PySem.W.nsIn K mainGlobals "len" = some none) (z3 : PySem.W.nsIn K mainGlobals "int" = some none) (z4 : PySem.W.nsIn K mainGlobals "str" = some none) (z5 : PySem.W.nsIn K mainGlobals "bool" = some none) (z6 : PySem.W.nsIn K mainGlobals "list" = some none) (z7 : PySem.W.nsIn K mainGlobals "tuple" = some none) (z8 : PySem.W.nsIn K mainGlobals "dict" = some none) (z9 : PySem.W.nsIn K mainGlobals "isinstance" = some none) (z10 : PySem.W.nsIn K mainGlobals "min" = some none) (z11 : PySem.W.nsIn K mainGlobals "sum" = some none) (z12 : PySem.W.nsIn K mainGlobals "sorted" = some none) (z13 : PySem.W.nsIn K mainGlobals "abs" = some none) (z14 : PySem.W.nsIn K mainGlobals "ord" = some none) :
    ∃ fd : FuncData, (∀ (s : Shared) (v : Value), BindsTo s fd ⟨[v], []⟩ [("script", v)]) ∧ ∀ base : Heap, K.In base → base.Ns mainGlobals mg → FnOk l.prog w K mg base CX0 10 fa fd ["script"] (spLaw K) := by
  have e := hfa.symm.trans (PySem.W.mg_of X G a35)
  cases e
  have F1 := fun_mk (st := svalue_key) l1 c1 k1
  have b1 := F1.binds (ps := ["value"]) fun _ _ _ _ _ _ us hl => match us, hl with | [_], _ => rfl
  have g1 := PySem.W.mg_of X G a1
  have F2 := fun_mk (st := srow_key) l2 c2 k2
  have b2 := F2.binds (ps := ["row"]) fun _ _ _ _ _ _ us hl => match us, hl with | [_], _ => rfl
  have g2 := PySem.W.mg_of X G a2
  have F3 := fun_mk (st := splace_of) l3 c3 k3
  have b3 := F3.binds (ps := ["rows", "row"]) fun _ _ _ _ _ _ us hl => match us, hl with | [_, _], _ => rfl
  have g3 := PySem.W.mg_of X G a3
  have F4 := fun_mk (st := sput_fact) l4 c4 k4
  have b4 := F4.binds (ps := ["state", "name", "row"]) fun _ _ _ _ _ _ us hl => match us, hl with | [_, _, _], _ => rfl
  have g4 := PySem.W.mg_of X G a4
  have F5 := fun_mk (st := sput_item) l5 c5 k5
  have b5 := F5.binds (ps := ["state", "item"]) fun _ _ _ _ _ _ us hl => match us, hl with | [_, _], _ => rfl
  have g5 := PySem.W.mg_of X G a5
  have F6 := fun_mk (st := skey_of) l6 c6 k6
  have b6 := F6.binds (ps := ["item"]) fun _ _ _ _ _ _ us hl => match us, hl with | [_], _ => rfl
  have g6 := PySem.W.mg_of X G a6
  have F7 := fun_mk (st := sremove_fact) l7 c7 k7
  have b7 := F7.binds (ps := ["state", "name", "row"]) fun _ _ _ _ _ _ us hl => match us, hl with | [_, _, _], _ => rfl
  have g7 := PySem.W.mg_of X G a7
  have F8 := fun_mk (st := sforget_facts) l8 c8 k8
  have b8 := F8.binds (ps := ["state", "name"]) fun _ _ _ _ _ _ us hl => match us, hl with | [_, _], _ => rfl
  have g8 := PySem.W.mg_of X G a8
  have F9 := fun_mk (st := snamed_items) l9 c9 k9
  have b9 := F9.binds (ps := ["state", "word"]) fun _ _ _ _ _ _ us hl => match us, hl with | [_, _], _ => rfl
  have g9 := PySem.W.mg_of X G a9
  have F10 := fun_mk (st := sremove_key) l10 c10 k10
  have b10 := F10.binds (ps := ["state", "key"]) fun _ _ _ _ _ _ us hl => match us, hl with | [_, _], _ => rfl
  have g10 := PySem.W.mg_of X G a10
  have F11 := fun_mk (st := sbetween) l11 c11 k11
  have b11 := F11.binds (ps := ["first", "second"]) fun _ _ _ _ _ _ us hl => match us, hl with | [_, _], _ => rfl
  have g11 := PySem.W.mg_of X G a11
  have F12 := fun_mk (st := s_law_mix) l12 c12 k12
  have b12 := F12.binds (ps := ["cell", "k"]) fun _ _ _ _ _ _ us hl => match us, hl with | [_, _], _ => rfl
  have g12 := PySem.W.mg_of X G a12
  have F13 := fun_mk (st := s_law_draws) l13 c13 k13
  have b13 := F13.binds (ps := ["script"]) fun _ _ _ _ _ _ us hl => match us, hl with | [_], _ => rfl
  have g13 := PySem.W.mg_of X G a13
  have F14 := fun_mk (st := s_law_at) l14 c14 k14
  have b14 := F14.binds (ps := ["draws", "index"]) fun _ _ _ _ _ _ us hl => match us, hl with | [_, _], _ => rfl
  have g14 := PySem.W.mg_of X G a14
  have F15 := fun_mk (st := s_law_is_integer) l15 c15 k15
  have b15 := F15.binds (ps := ["actual"]) fun _ _ _ _ _ _ us hl => match us, hl with | [_], _ => rfl
  have g15 := PySem.W.mg_of X G a15
  have F16 := fun_mk (st := s_law_same) l16 c16 k16
  have b16 := F16.binds (ps := ["actual", "expected"]) fun _ _ _ _ _ _ us hl => match us, hl with | [_, _], _ => rfl
  have g16 := PySem.W.mg_of X G a16
  have F17 := fun_mk (st := s_law_is_dict) l17 c17 k17
  have b17 := F17.binds (ps := ["actual", "expected"]) fun _ _ _ _ _ _ us hl => match us, hl with | [_, _], _ => rfl
  have g17 := PySem.W.mg_of X G a17
  have F18 := fun_mk (st := s_law_next) l18 c18 k18
  have b18 := F18.binds (ps := ["state", "limit"]) fun _ _ _ _ _ _ us hl => match us, hl with | [_, _], _ => rfl
  have g18 := PySem.W.mg_of X G a18
  have F19 := fun_mk (st := s_law_text) l19 c19 k19
  have b19 := F19.binds (ps := ["state", "most"]) fun _ _ _ _ _ _ us hl => match us, hl with | [_, _], _ => rfl
  have g19 := PySem.W.mg_of X G a19
  have F20 := fun_mk (st := s_law_value) l20 c20 k20
  have b20 := F20.binds (ps := ["state"]) fun _ _ _ _ _ _ us hl => match us, hl with | [_], _ => rfl
  have g20 := PySem.W.mg_of X G a20
  have F21 := fun_mk (st := s_law_row) l21 c21 k21
  have b21 := F21.binds (ps := ["state", "width"]) fun _ _ _ _ _ _ us hl => match us, hl with | [_, _], _ => rfl
  have g21 := PySem.W.mg_of X G a21
  have F22 := fun_mk (st := s_law_name) l22 c22 k22
  have b22 := F22.binds (ps := ["state"]) fun _ _ _ _ _ _ us hl => match us, hl with | [_], _ => rfl
  have g22 := PySem.W.mg_of X G a22
  have F23 := fun_mk (st := s_law_first) l23 c23 k23
  have b23 := F23.binds (ps := ["one", "other"]) fun _ _ _ _ _ _ us hl => match us, hl with | [_, _], _ => rfl
  have g23 := PySem.W.mg_of X G a23
  have F24 := fun_mk (st := s_law_order) l24 c24 k24
  have b24 := F24.binds (ps := ["first", "second"]) fun _ _ _ _ _ _ us hl => match us, hl with | [_, _], _ => rfl
  have g24 := PySem.W.mg_of X G a24
  have F25 := fun_mk (st := s_law_key) l25 c25 k25
  have b25 := F25.binds (ps := ["item"]) fun _ _ _ _ _ _ us hl => match us, hl with | [_], _ => rfl
  have g25 := PySem.W.mg_of X G a25
  have F26 := fun_mk (st := s_law_key_order) l26 c26 k26
  have b26 := F26.binds (ps := ["first", "second"]) fun _ _ _ _ _ _ us hl => match us, hl with | [_, _], _ => rfl
  have g26 := PySem.W.mg_of X G a26
  have F27 := fun_mk (st := s_law_item) l27 c27 k27
  have b27 := F27.binds (ps := ["state"]) fun _ _ _ _ _ _ us hl => match us, hl with | [_], _ => rfl
  have g27 := PySem.W.mg_of X G a27
  have F28 := fun_mk (st := s_law_placed) l28 c28 k28
  have b28 := F28.binds (ps := ["items", "item"]) fun _ _ _ _ _ _ us hl => match us, hl with | [_, _], _ => rfl
  have g28 := PySem.W.mg_of X G a28
  have F29 := fun_mk (st := s_law_some_items) l29 c29 k29
  have b29 := F29.binds (ps := ["state", "most"]) fun _ _ _ _ _ _ us hl => match us, hl with | [_, _], _ => rfl
  have g29 := PySem.W.mg_of X G a29
  have F30 := fun_mk (st := s_law_is_state) l30 c30 k30
  have b30 := F30.binds (ps := ["actual", "ordered"]) fun _ _ _ _ _ _ us hl => match us, hl with | [_, _], _ => rfl
  have g30 := PySem.W.mg_of X G a30
  have F31 := fun_mk (st := s_law_changed) l31 c31 k31
  have b31 := F31.binds (ps := ["ordered", "changes"]) fun _ _ _ _ _ _ us hl => match us, hl with | [_, _], _ => rfl
  have g31 := PySem.W.mg_of X G a31
  have F32 := fun_mk (st := s_law_drawn_changes) l32 c32 k32
  have b32 := F32.binds (ps := ["state", "ordered"]) fun _ _ _ _ _ _ us hl => match us, hl with | [_, _], _ => rfl
  have g32 := PySem.W.mg_of X G a32
  have F33 := fun_mk (st := s_law_between) l33 c33 k33
  have b33 := F33.binds (ps := ["first", "second"]) fun _ _ _ _ _ _ us hl => match us, hl with | [_, _], _ => rfl
  have g33 := PySem.W.mg_of X G a33
  have F34 := fun_mk (st := s_law_schema) l34 c34 k34
  have b34 := F34.binds (ps := ["ordered"]) fun _ _ _ _ _ _ us hl => match us, hl with | [_], _ => rfl
  have g34 := PySem.W.mg_of X G a34
  have F35 := fun_mk (st := slaw) l35 c35 k35
  have T : Bl mg := ⟨PySem.W.mg_none_of X G z1, PySem.W.mg_none_of X G z2, PySem.W.mg_none_of X G z3, PySem.W.mg_none_of X G z4, PySem.W.mg_none_of X G z5, PySem.W.mg_none_of X G z6, PySem.W.mg_none_of X G z7, PySem.W.mg_none_of X G z8, PySem.W.mg_none_of X G z9, PySem.W.mg_none_of X G z10, PySem.W.mg_none_of X G z11, PySem.W.mg_none_of X G z12, PySem.W.mg_none_of X G z13, PySem.W.mg_none_of X G z14⟩
  have SM : SrtM K mg sA := ⟨PySem.W.mg_of X G aS, _, _, _, lS, rfl, rfl, rfl, sz 4, .cons ⟨_, rfl⟩ (.cons ⟨_, rfl⟩ (.cons ⟨_, rfl⟩ (.cons ⟨_, rfl⟩ .nil)))⟩
  have X : Txt K mg C := ⟨⟨pg, hd, po, sa⟩, nR, nF, nS, nL, PySem.W.mg_of X G aC⟩
  have FI : FunD K "__init__" "State.__init__" (defArgs sInit) (defBody sInit) (defScope sInit) [V.ref A0] [] fI (PySem.W.fnOf "__init__" "State.__init__" (defArgs sInit) (defBody sInit) (defScope sInit) (.ref TT) kVI dcI pmI anI cdI ctI) :=
    ⟨⟨ocI, odI, .ref TT, kVI, dcI, pmI, anI, cdI, ctI, slI, rfl, lI, cI, .inr ⟨by simp, TT, _, [.ref A0], nT, rfl, lT, rfl, .cons rfl .nil⟩, .inl rfl⟩, kI⟩
  obtain ⟨d1, v1, bI⟩ := FI.binds1 (ps := ["self", "items"]) 2 1 (by simp) rfl fun T kV doc pm an cdv ct us its hu hi => match us, its, hu, hi with | [_, _], [_], _, _ => ⟨_, rfl, rfl⟩
  obtain ⟨d0, v0, bI0⟩ := FI.binds1 (ps := ["self", "items"]) 1 0 (by simp) rfl fun T kV doc pm an cdv ct us its hu hi => match us, its, hu, hi with | [_], [_], _, _ => ⟨_, rfl, rfl⟩
  have e1 : d1 = [] := by cases v1; rfl
  subst e1
  have hA0 : ∀ H : Hp, SqT K H A0 [] := fun H => .inr ⟨_, #[], nA, lA, rfl, rfl, Nat.zero_le _, .nil⟩
  have FMA := fun_mk (st := sAll) lMA cMA kMA
  have bMA := FMA.binds (ps := ["self"]) fun _ _ _ _ _ _ us hl => match us, hl with | [_], _ => rfl
  have mMA : Meth K C "all_items" fMA := ⟨aMA, iMA, kMA⟩
  have FMH := fun_mk (st := sHas) lMH cMH kMH
  have bMH := FMH.binds (ps := ["self", "relation", "row"]) fun _ _ _ _ _ _ us hl => match us, hl with | [_, _, _], _ => rfl
  have mMH : Meth K C "has" fMH := ⟨aMH, iMH, kMH⟩
  have FMC := fun_mk (st := sCopy) lMC cMC kMC
  have bMC := FMC.binds (ps := ["self"]) fun _ _ _ _ _ _ us hl => match us, hl with | [_], _ => rfl
  have mMC : Meth K C "copy" fMC := ⟨aMC, iMC, kMC⟩
  have FMX := fun_mk (st := sState_change) lMX cMX kMX
  have bMX := FMX.binds (ps := ["self", "changes"]) fun _ _ _ _ _ _ us hl => match us, hl with | [_, _], _ => rfl
  have mMX : Meth K C "change" fMX := ⟨aMX, iMX, kMX⟩
  have FMS := fun_mk (st := sState_same_schema) lMS cMS kMS
  have bMS := FMS.binds (ps := ["self", "other"]) fun _ _ _ _ _ _ us hl => match us, hl with | [_, _], _ => rfl
  have mMS : Meth K C "same_schema" fMS := ⟨aMS, iMS, kMS⟩
  refine ⟨PySem.W.fnOf "law" "law" (defArgs slaw) (defBody slaw) (defScope slaw) .none kV35 dc35 pm35 an35 cd35 ct35, fun s v => .of_eq rfl, fun base _ _ => ?_⟩
  have Dvalue_key : Kn l.prog w K mg base 1 "value_key" ["value"] (spVKey K) := kn_of F1 g1 b1 (ok_vkey F1 T)
  have Drow_key : Kn l.prog w K mg base 2 "row_key" ["row"] (spRKey K) := kn_of F2 g2 b2 (ok_rkey F2 T Dvalue_key)
  have Dplace_of : Kn l.prog w K mg base 3 "place_of" ["rows", "row"] (spPlace K) := kn_of F3 g3 b3 (ok_place F3 T Drow_key)
  have Dput_fact : Kn l.prog w K mg base 4 "put_fact" ["state", "name", "row"] (spPutFact K C) := kn_of F4 g4 b4 (ok_putfact F4 T X Dplace_of)
  have Dput_item : Kn l.prog w K mg base 5 "put_item" ["state", "item"] (spPutItem K C) := kn_of F5 g5 b5 (ok_putitem F5 T X Dput_fact)
  have St : Sta l.prog w K mg base C := ⟨fI, _, A0, d0, ⟨mk, aI, iI, kc⟩, ok_init FI X Dput_item, ok_init0 FI X Dput_item, bI, bI0, v0, hA0⟩
  have Sall : Kmt l.prog w K mg base C 1 "all_items" ["self"] (spAll K C) := ⟨⟨_, _, mMA, ok_all FMA T X, bMA⟩, X.cl⟩
  have Shas : Kmt l.prog w K mg base C 4 "has" ["self", "relation", "row"] (spHas K C) := ⟨⟨_, _, mMH, ok_has FMH X Dplace_of, bMH⟩, X.cl⟩
  have Scopy : Kmt l.prog w K mg base C 8 "copy" ["self"] (spCopy K C) := ⟨⟨_, _, mMC, ok_copy FMC T X St, bMC⟩, X.cl⟩
  have Sschema : Kmt l.prog w K mg base C 1 "same_schema" ["self", "other"] (spSchema K C) := ⟨⟨_, _, mMS, ok_schema FMS X, bMS⟩, X.cl⟩
  have Dkey_of : Kn l.prog w K mg base 1 "key_of" ["item"] (spKeyOf K) := kn_of F6 g6 b6 (ok_keyof F6 T SM)
  have Dremove_fact : Kn l.prog w K mg base 5 "remove_fact" ["state", "name", "row"] (spDelFact K C) := kn_of F7 g7 b7 (ok_delfact F7 T X Shas Dplace_of)
  have Dforget_facts : Kn l.prog w K mg base 1 "forget_facts" ["state", "name"] (spForget K C) := kn_of F8 g8 b8 (ok_forget F8 T X)
  have Dnamed_items : Kn l.prog w K mg base 1 "named_items" ["state", "word"] (spNamed K C) := kn_of F9 g9 b9 (ok_named F9 X)
  have Dremove_key : Kn l.prog w K mg base 6 "remove_key" ["state", "key"] (spRemKey K C) := kn_of F10 g10 b10 (ok_remkey F10 T SM Dremove_fact Dforget_facts Dnamed_items)
  have Schange : Kmt l.prog w K mg base C 9 "change" ["self", "changes"] (spChange K C) := ⟨⟨_, _, mMX, ok_change FMX T X Scopy Dput_item Dremove_key, bMX⟩, X.cl⟩
  have Dbetween : Kn l.prog w K mg base 2 "between" ["first", "second"] (spBetween K C) := kn_of F11 g11 b11 (ok_between F11 T X Dkey_of Sall)
  have D_law_mix : Kn l.prog w K mg base 1 "_law_mix" ["cell", "k"] (spMix) := kn_of F12 g12 b12 (ok_mix F12 T)
  have D_law_draws : Kn l.prog w K mg base 2 "_law_draws" ["script"] (spDraws K) := kn_of F13 g13 b13 (ok_draws F13 T D_law_mix)
  have D_law_at : Kn l.prog w K mg base 2 "_law_at" ["draws", "index"] (spAt K) := kn_of F14 g14 b14 (ok_at F14 T D_law_mix)
  have D_law_is_integer : Kn l.prog w K mg base 1 "_law_is_integer" ["actual"] (spIsInt) := kn_of F15 g15 b15 (ok_isint F15 T)
  have DintG : Kn l.prog w K mg base 1 "_law_is_integer" ["actual"] spIsIntG := kn_of F15 g15 b15 (ok_isintG F15 T)
  have D_law_same0 : Kn l.prog w K mg base 1 "_law_same" ["actual", "expected"] (spSm K 0) := kn_of F16 g16 b16 (ok_smZ F16)
  have D_law_same1 : Kn l.prog w K mg base 2 "_law_same" ["actual", "expected"] (spSm K 1) := kn_of F16 g16 b16 (ok_sm F16 T D_law_is_integer D_law_same0)
  have D_law_same2 : Kn l.prog w K mg base 3 "_law_same" ["actual", "expected"] (spSm K 2) := kn_of F16 g16 b16 (ok_sm F16 T D_law_is_integer D_law_same1)
  have D_law_same3 : Kn l.prog w K mg base 4 "_law_same" ["actual", "expected"] (spSm K 3) := kn_of F16 g16 b16 (ok_sm F16 T D_law_is_integer D_law_same2)
  have D_law_same4 : Kn l.prog w K mg base 5 "_law_same" ["actual", "expected"] (spSm K 4) := kn_of F16 g16 b16 (ok_sm F16 T D_law_is_integer D_law_same3)
  have D_law_same : Kn l.prog w K mg base 6 "_law_same" ["actual", "expected"] (spSm K 5) := kn_of F16 g16 b16 (ok_sm F16 T D_law_is_integer D_law_same4)
  have Dsk0 : Kn l.prog w K mg base 1 "_law_same" ["actual", "expected"] (spSk K 0) := kn_of F16 g16 b16 (ok_skZ F16)
  have Dsk1 : Kn l.prog w K mg base 2 "_law_same" ["actual", "expected"] (spSk K 1) := kn_of F16 g16 b16 (ok_sk F16 T DintG Dsk0)
  have Dsk2 : Kn l.prog w K mg base 3 "_law_same" ["actual", "expected"] (spSk K 2) := kn_of F16 g16 b16 (ok_sk F16 T DintG Dsk1)
  have Dsk3 : Kn l.prog w K mg base 4 "_law_same" ["actual", "expected"] (spSk K 3) := kn_of F16 g16 b16 (ok_sk F16 T DintG Dsk2)
  have D_law_is_dict : Kn l.prog w K mg base 5 "_law_is_dict" ["actual", "expected"] (spIsD K) := kn_of F17 g17 b17 (ok_isd F17 T D_law_same3)
  have D_law_next : Kn l.prog w K mg base 3 "_law_next" ["state", "limit"] (spNext) := kn_of F18 g18 b18 (ok_next F18 T D_law_at)
  have D_law_text : Kn l.prog w K mg base 4 "_law_text" ["state", "most"] (spText) := kn_of F19 g19 b19 (ok_text F19 T D_law_next)
  have D_law_value : Kn l.prog w K mg base 5 "_law_value" ["state"] (spValue) := kn_of F20 g20 b20 (ok_value F20 T D_law_next D_law_text)
  have D_law_row : Kn l.prog w K mg base 6 "_law_row" ["state", "width"] (spRow) := kn_of F21 g21 b21 (ok_row F21 T D_law_value)
  have D_law_name : Kn l.prog w K mg base 4 "_law_name" ["state"] (spName4) := kn_of F22 g22 b22 (ok_name4 F22 D_law_next)
  have D_law_first : Kn l.prog w K mg base 1 "_law_first" ["one", "other"] (spFirst) := kn_of F23 g23 b23 (ok_first F23 T)
  have D_law_order : Kn l.prog w K mg base 2 "_law_order" ["first", "second"] (spOrder K) := kn_of F24 g24 b24 (ok_order F24 T D_law_first)
  have D_law_key : Kn l.prog w K mg base 1 "_law_key" ["item"] (spLKey K) := kn_of F25 g25 b25 (ok_lkey F25)
  have D_law_key_order : Kn l.prog w K mg base 3 "_law_key_order" ["first", "second"] (spLOrd K) := kn_of F26 g26 b26 (ok_lord F26 T D_law_order)
  have D_law_item : Kn l.prog w K mg base 7 "_law_item" ["state"] (spItem4 K) := kn_of F27 g27 b27 (ok_item4 F27 T D_law_next D_law_name D_law_row)
  have D_law_placed : Kn l.prog w K mg base 4 "_law_placed" ["items", "item"] (spPlaced K) := kn_of F28 g28 b28 (ok_placed F28 T D_law_key D_law_key_order)
  have D_law_some_items : Kn l.prog w K mg base 8 "_law_some_items" ["state", "most"] (spSome4 K) := kn_of F29 g29 b29 (ok_some4 F29 T D_law_next D_law_item D_law_placed)
  have D_law_is_state : Kn l.prog w K mg base 6 "_law_is_state" ["actual", "ordered"] (spIsSt2 K C) := kn_of F30 g30 b30 (ok_isst2 F30 T X Sall D_law_is_dict D_law_same4)
  have D_law_changed : Kn l.prog w K mg base 5 "_law_changed" ["ordered", "changes"] (spLChanged K) := kn_of F31 g31 b31 (ok_lchanged F31 T D_law_key D_law_placed Dsk3)
  have D_law_drawn_changes : Kn l.prog w K mg base 8 "_law_drawn_changes" ["state", "ordered"] (spLDrawn K) := kn_of F32 g32 b32 (ok_ldrawn F32 T D_law_next D_law_item D_law_key)
  have D_law_between : Kn l.prog w K mg base 2 "_law_between" ["first", "second"] (spLBetween K) := kn_of F33 g33 b33 (ok_lbetween F33 T D_law_key)
  have D_law_schema : Kn l.prog w K mg base 1 "_law_schema" ["ordered"] (spLSchema K) := kn_of F34 g34 b34 (ok_lschema F34 T)
  exact ok_law F35 T X St D_law_draws D_law_next D_law_some_items D_law_changed D_law_drawn_changes Dbetween D_law_between D_law_same D_law_is_state D_law_schema Schange Sschema
end K1
open PySem PySem.W PyProof.Rows
set_option maxHeartbeats 0 in
theorem PySem.Challenge.cw_turnshelves_k03_changes_between_states_holds : PySem.Challenge.rw_turnshelves_k03_changes_between_states.Holds := by
  w_on; o_law; k_head; (case hw => w_witness2)
  k_fill
  refine L2.walk_of (l := PySem.Challenge.rw_turnshelves_k03_changes_between_states) (n := 63) (k := 10) (x := "script") (CX := fun _ => L2.CX0) (sp := fun w => K1.spLaw _) rfl (by decide) rfl ⟨rfl, by decide, by decide⟩ (fun w h Y => PySem.W.kIn_of Y) ?F (fun _ _ a ns hl _ hS => ⟨a, ns, rfl, hS, hl, fun _ => rfl⟩) (fun _ _ _ _ _ h => h)
  case F =>
    intro w mg fa h KX G hmg
    refine' K1.all_mk KX G hmg ?a1 ?l1 ?c1 ?k1 ?a2 ?l2 ?c2 ?k2 ?a3 ?l3 ?c3 ?k3 ?a4 ?l4 ?c4 ?k4 ?a5 ?l5 ?c5 ?k5 ?a6 ?l6 ?c6 ?k6 ?a7 ?l7 ?c7 ?k7 ?a8 ?l8 ?c8 ?k8 ?a9 ?l9 ?c9 ?k9 ?a10 ?l10 ?c10 ?k10 ?a11 ?l11 ?c11 ?k11 ?a12 ?l12 ?c12 ?k12 ?a13 ?l13 ?c13 ?k13 ?a14 ?l14 ?c14 ?k14 ?a15 ?l15 ?c15 ?k15 ?a16 ?l16 ?c16 ?k16 ?a17 ?l17 ?c17 ?k17 ?a18 ?l18 ?c18 ?k18 ?a19 ?l19 ?c19 ?k19 ?a20 ?l20 ?c20 ?k20 ?a21 ?l21 ?c21 ?k21 ?a22 ?l22 ?c22 ?k22 ?a23 ?l23 ?c23 ?k23 ?a24 ?l24 ?c24 ?k24 ?a25 ?l25 ?c25 ?k25 ?a26 ?l26 ?c26 ?k26 ?a27 ?l27 ?c27 ?k27 ?a28 ?l28 ?c28 ?k28 ?a29 ?l29 ?c29 ?k29 ?a30 ?l30 ?c30 ?k30 ?a31 ?l31 ?c31 ?k31 ?a32 ?l32 ?c32 ?k32 ?a33 ?l33 ?c33 ?k33 ?a34 ?l34 ?c34 ?k34 ?a35 ?l35 ?c35 ?k35 ?aS ?lS ?aC ?aI ?iI ?lI ?cI ?kI ?lT ?lA ?pg ?hd ?po ?sa ?mk ?kc ?nR ?nF ?nS ?nL ?aMA ?iMA ?lMA ?cMA ?kMA ?aMH ?iMH ?lMH ?cMH ?kMH ?aMC ?iMC ?lMC ?cMC ?kMC ?aMX ?iMX ?lMX ?cMX ?kMX ?aMS ?iMS ?lMS ?cMS ?kMS ?z1 ?z2 ?z3 ?z4 ?z5 ?z6 ?z7 ?z8 ?z9 ?z10 ?z11 ?z12 ?z13 ?z14
    (case a1 => k_is); (case l1 => k_is); (case c1 => k_is); (case k1 => k_is); (case a2 => k_is); (case l2 => k_is); (case c2 => k_is); (case k2 => k_is); (case a3 => k_is); (case l3 => k_is); (case c3 => k_is); (case k3 => k_is); (case a4 => k_is); (case l4 => k_is); (case c4 => k_is); (case k4 => k_is); (case a5 => k_is); (case l5 => k_is); (case c5 => k_is); (case k5 => k_is); (case a6 => k_is); (case l6 => k_is); (case c6 => k_is); (case k6 => k_is); (case a7 => k_is); (case l7 => k_is); (case c7 => k_is); (case k7 => k_is); (case a8 => k_is); (case l8 => k_is); (case c8 => k_is); (case k8 => k_is); (case a9 => k_is); (case l9 => k_is); (case c9 => k_is); (case k9 => k_is); (case a10 => k_is); (case l10 => k_is); (case c10 => k_is); (case k10 => k_is); (case a11 => k_is); (case l11 => k_is); (case c11 => k_is); (case k11 => k_is); (case a12 => k_is); (case l12 => k_is); (case c12 => k_is); (case k12 => k_is); (case a13 => k_is); (case l13 => k_is); (case c13 => k_is); (case k13 => k_is); (case a14 => k_is); (case l14 => k_is); (case c14 => k_is); (case k14 => k_is); (case a15 => k_is); (case l15 => k_is); (case c15 => k_is); (case k15 => k_is); (case a16 => k_is); (case l16 => k_is); (case c16 => k_is); (case k16 => k_is); (case a17 => k_is); (case l17 => k_is); (case c17 => k_is); (case k17 => k_is); (case a18 => k_is); (case l18 => k_is); (case c18 => k_is); (case k18 => k_is); (case a19 => k_is); (case l19 => k_is); (case c19 => k_is); (case k19 => k_is); (case a20 => k_is); (case l20 => k_is); (case c20 => k_is); (case k20 => k_is); (case a21 => k_is); (case l21 => k_is); (case c21 => k_is); (case k21 => k_is); (case a22 => k_is); (case l22 => k_is); (case c22 => k_is); (case k22 => k_is); (case a23 => k_is); (case l23 => k_is); (case c23 => k_is); (case k23 => k_is); (case a24 => k_is); (case l24 => k_is); (case c24 => k_is); (case k24 => k_is); (case a25 => k_is); (case l25 => k_is); (case c25 => k_is); (case k25 => k_is); (case a26 => k_is); (case l26 => k_is); (case c26 => k_is); (case k26 => k_is); (case a27 => k_is); (case l27 => k_is); (case c27 => k_is); (case k27 => k_is); (case a28 => k_is); (case l28 => k_is); (case c28 => k_is); (case k28 => k_is); (case a29 => k_is); (case l29 => k_is); (case c29 => k_is); (case k29 => k_is); (case a30 => k_is); (case l30 => k_is); (case c30 => k_is); (case k30 => k_is); (case a31 => k_is); (case l31 => k_is); (case c31 => k_is); (case k31 => k_is); (case a32 => k_is); (case l32 => k_is); (case c32 => k_is); (case k32 => k_is); (case a33 => k_is); (case l33 => k_is); (case c33 => k_is); (case k33 => k_is); (case a34 => k_is); (case l34 => k_is); (case c34 => k_is); (case k34 => k_is); (case a35 => k_is); (case l35 => k_is); (case c35 => k_is); (case k35 => k_is); (case aS => k_is); (case lS => k_is); (case aC => k_is); (case aI => k_is); (case iI => k_is); (case lI => k_is); (case cI => k_is); (case kI => k_is); (case lT => k_is); (case lA => k_is); (case pg => k_is); (case hd => k_is); (case po => k_is); (case sa => k_is); (case mk => k_is); (case kc => k_is); (case nR => k_is); (case nF => k_is); (case nS => k_is); (case nL => k_is); (case aMA => k_is); (case iMA => k_is); (case lMA => k_is); (case cMA => k_is); (case kMA => k_is); (case aMH => k_is); (case iMH => k_is); (case lMH => k_is); (case cMH => k_is); (case kMH => k_is); (case aMC => k_is); (case iMC => k_is); (case lMC => k_is); (case cMC => k_is); (case kMC => k_is); (case aMX => k_is); (case iMX => k_is); (case lMX => k_is); (case cMX => k_is); (case kMX => k_is); (case aMS => k_is); (case iMS => k_is); (case lMS => k_is); (case cMS => k_is); (case kMS => k_is); (case z1 => k_is); (case z2 => k_is); (case z3 => k_is); (case z4 => k_is); (case z5 => k_is); (case z6 => k_is); (case z7 => k_is); (case z8 => k_is); (case z9 => k_is); (case z10 => k_is); (case z11 => k_is); (case z12 => k_is); (case z13 => k_is); (case z14 => k_is)
